import Derived.Deep.Draws
import Derived.Laws.AppendOwnNone
import Derived.Test.YtkmebkbpfmoeaaaGreatF14
import Derived.Test.YtkmebkbpfmoeaaaGreatF13
set_option linter.unusedVariables false
set_option linter.unusedSimpArgs false
set_option maxHeartbeats 12800000
namespace Go.Proofs.YtkmebkbpfmoeaaaGreat
namespace Q
def sysOf (es:List Ev) (rs ps:List Int):Sys where
 ahead i k:=i<es.length∧k<es.length∧zIh i (ev es i) k (ev es k)=true
 strong i k:=i<es.length∧k<es.length∧zIl i (ev es i) k (ev es k)=true
 gathers i k:=i<es.length∧k<es.length∧zIt (ev es i) (ev es k)=true
 fences i k:=i<es.length∧k<es.length∧zIj i (ev es i) k (ev es k)=true
 halves i k:=i<es.length∧k<es.length∧zIP i (ev es i) k=true
 hangs i k:=i<es.length∧k<es.length∧hasS (ev es i).hangs (k:Int)=true
 sends i k:=i<es.length∧k<es.length∧zJo i (ev es i) k (ev es k)=true
 takes i k:=i<es.length∧k<es.length∧zJZ i (ev es i) k (ev es k)=true
 rd i k:=k<es.length∧i<es.length∧rs.getD i (-1)=(k:Int)
 bh i k:=i<es.length∧k<es.length∧zKk es ps i k=true
 ord i:=(ev es i).order≠0
structure Says (n:Nat) (r:List Nat) (R:Nat→Nat→Prop):Prop where
 rel:Rel n r
 bit:∀ a b,Bit r a b ↔ R a b
section
variable {n:Nat} {r o:List Nat} {R O:Nat→Nat→Prop}
theorem Says.or (hr:Says n r R) (ho:Says n o O):Says n (orR r o) (fun a b=>R a b∨O a b) :=
 ⟨zCw hr.rel ho.rel,fun a b=>by rw[or_bit hr.rel.len ho.rel.len,hr.bit,ho.bit]⟩
theorem Says.and (hr:Says n r R) (ho:Says n o O):Says n (andR r o) (fun a b=>R a b∧O a b) :=
 ⟨zDt hr.rel,fun a b=>by rw[and_bit hr.rel.len,hr.bit,ho.bit]⟩
theorem Says.thn (hn:n≤64) (hr:Says n r R) (ho:Says n o O):Says n (thenR r o) (Th R O) :=
 ⟨zBn hn hr.rel ho.rel,fun a b=>by
  rw[then_bit hn hr.rel]
  constructor
  ·rintro ⟨c,h1,h2⟩;exact⟨c,(hr.bit _ _).1 h1,(ho.bit _ _).1 h2⟩
  ·rintro ⟨c,h1,h2⟩;exact⟨c,(hr.bit _ _).2 h1,(ho.bit _ _).2 h2⟩⟩
theorem Says.cl (hn:n≤64) (hr:Says n r R):Says n (zJb r) (TC R) :=
 ⟨(closed_rb hn hr.rel).1,fun a b=>by
  rw[(closed_rb hn hr.rel).2]
  exact⟨TC.mono fun x y h=>(hr.bit _ _).1 h,TC.mono fun x y h=>(hr.bit _ _).2 h⟩⟩
theorem Says.turned (hn:n≤64) (hr:Says n r R):Says n (zJv r) (fun a b=>R b a) :=
 ⟨(turned_rb hn hr.rel).1,fun a b=>by rw[(turned_rb hn hr.rel).2,hr.bit]⟩
theorem Says.to (hr:Says n r R) {S:Nat→Nat→Prop} (h:∀ a b,R a b ↔ S a b):Says n r S:=⟨hr.rel,fun a b=>by rw[hr.bit,h]⟩
theorem Says.loops (hn:n≤64) (hr:Says n r R):zID r=true ↔ ∃ i,R i i:=by
 rw[loops_bit hn hr.rel]
 exact⟨fun ⟨i,h⟩=>⟨i,(hr.bit _ _).1 h⟩,fun ⟨i,h⟩=>⟨i,(hr.bit _ _).2 h⟩⟩
theorem Says.circles (hn:n≤64) (hr:Says n r R):zJJ r=true ↔ ∃ i,TC R i i:=Says.loops hn (hr.cl hn)
end
section
variable {es:List Ev} {rs:List Int}
theorem says_reads (hn:es.length≤64) (hr:rs.length=es.length) (ps:List Int):Says es.length ((zIq es).reads rs) (sysOf es rs ps).rd:=⟨(reads_rb hn hr).1,(reads_rb hn hr).2⟩
theorem says_straight (hn:es.length≤64) (hr:rs.length=es.length) (ps:List Int):Says es.length ((zIq es).straight ((zIq es).reads rs)) (sysOf es rs ps).straight :=
 (says_reads hn hr ps).and (O:=(sysOf es rs ps).strong) ⟨(f_strong hn).1,(f_strong hn).2⟩
theorem says_halves (hn:es.length≤64) (ps:List Int):Says es.length (zIq es).halves (sysOf es rs ps).halves:=⟨(f_halves hn).1,(f_halves hn).2⟩
theorem says_sees (hn:es.length≤64) (hr:rs.length=es.length) (ps:List Int):Says es.length ((zIq es).sees ((zIq es).reads rs)) (sysOf es rs ps).sees :=
 (says_straight hn hr ps).or ((((says_straight hn hr ps).thn hn (says_halves hn ps)).cl hn).thn hn (says_straight hn hr ps))
theorem says_heard (hn:es.length≤64) (hr:rs.length=es.length) (ps:List Int):Says es.length (heard es ((zIq es).sees ((zIq es).reads rs))) (sysOf es rs ps).heard:=by
 have h:=heard_rb hn (says_sees hn hr ps).rel
 refine⟨h.1,fun a b=>?_⟩
 rw[h.2,(says_sees hn hr ps).bit]
 exact Iff.rfl
theorem says_tells (hn:es.length≤64) (hr:rs.length=es.length) (ps:List Int):Says es.length ((zIq es).tells ((zIq es).sees ((zIq es).reads rs))) (sysOf es rs ps).tells:=by
 unfold Facts.tells
 rw[factsOf_ev]
 exact ((Says.thn hn (R:=(sysOf es rs ps).sends) ⟨(f_sends hn).1,(f_sends hn).2⟩ (says_heard hn hr ps)).thn hn (O:=(sysOf es rs ps).takes) ⟨(f_takes hn).1,(f_takes hn).2⟩).and (O:=(sysOf es rs ps).strong) ⟨(f_strong hn).1,(f_strong hn).2⟩
theorem says_before (hn:es.length≤64) (hr:rs.length=es.length) (ps:List Int):Says es.length ((zIq es).before ((zIq es).reads rs)) (sysOf es rs ps).before :=
 Says.cl hn ((Says.or (R:=(sysOf es rs ps).ahead) ⟨(f_ahead hn).1,(f_ahead hn).2⟩ (says_tells hn hr ps)).or (O:=(sysOf es rs ps).gathers) ⟨(f_gathers hn).1,(f_gathers hn).2⟩)
theorem says_behind (hn:es.length≤64) (ps:List Int):Says es.length (zIu es ps) (sysOf es rs ps).bh:=⟨(behind_rb hn ps).1,(behind_rb hn ps).2⟩
theorem says_linked (hn:es.length≤64) (hr:rs.length=es.length) (ps:List Int):Says es.length (linked ((zIq es).reads rs) (zIu es ps)) (sysOf es rs ps).linked :=
 Says.cl hn ((((says_reads hn hr ps).turned hn).or (says_behind hn ps)).or ((says_reads hn hr ps).thn hn (says_behind hn ps)))
theorem bool_not {b:Bool} {p:Prop} (h:b=true ↔ p):b=false ↔ ¬ p:=by
 cases b
 ·simp at h;simp[h]
 ·simp at h;simp[h]
theorem may_iff (hn:es.length≤64) (hr:rs.length=es.length) (ps:List Int):(zIq es).mayBe ((zIq es).reads rs) ((zIq es).before ((zIq es).reads rs)) ps=true ↔ (sysOf es rs ps).May:=by
 have h1:=(says_before hn hr ps).loops hn
 have hbh:Says es.length (zIu es ps) (sysOf es rs ps).bh:=says_behind hn ps
 have hhv:Says es.length (zIq es).halves (sysOf es rs ps).halves:=says_halves hn ps
 have h2:=(Says.thn hn (hhv.thn hn ((says_reads hn hr ps).thn hn hbh)) hbh).loops hn
 have h3:=((says_before hn hr ps).thn hn (says_linked hn hr ps)).loops hn
 have h4:=(((says_before hn hr ps).or (((says_before hn hr ps).thn hn (says_linked hn hr ps)).thn hn (says_before hn hr ps))).and (O:=(sysOf es rs ps).fences) ⟨(f_fences hn).1,(f_fences hn).2⟩).circles hn
 unfold Facts.mayBe
 rw[factsOf_ev]
 have e2:(zIq es).splits (thenR ((zIq es).reads rs) (zIu es ps)) (zIu es ps)=zID (thenR (thenR (zIq es).halves (thenR ((zIq es).reads rs) (zIu es ps))) (zIu es ps)):=rfl
 have e4:(zIq es).fencesCircle ((zIq es).before ((zIq es).reads rs)) (linked ((zIq es).reads rs) (zIu es ps))=zJJ (andR (orR ((zIq es).before ((zIq es).reads rs)) (thenR (thenR ((zIq es).before ((zIq es).reads rs)) (linked ((zIq es).reads rs) (zIu es ps))) ((zIq es).before ((zIq es).reads rs)))) (zIq es).fences):=rfl
 rw[e2,e4]
 have k1:=bool_not h1
 have k2:=bool_not h2
 have k3:=bool_not h3
 have k4:=bool_not h4
 constructor
 ·intro h
  split at h
  ·cases h
  ·split at h
   ·cases h
   ·split at h
    ·cases h
    ·rename_i a b c
     rw[Bool.not_eq_true'] at h
     rw[Bool.not_eq_true] at a b c
     exact⟨fun i hi=>k1.1 a ⟨i,hi⟩,fun i hi=>k2.1 b ⟨i,hi⟩,fun i hi=>k3.1 c ⟨i,hi⟩,fun i hi=>k4.1 h ⟨i,hi⟩⟩
 ·intro m
  rw[k1.2 (fun ⟨i,hi⟩=>m.bef i hi),k2.2 (fun ⟨i,hi⟩=>m.split i hi),k3.2 (fun ⟨i,hi⟩=>m.link i hi),k4.2 (fun ⟨i,hi⟩=>m.fence i hi)]
  rfl
theorem hang_iff (hn:es.length≤64) (hr:rs.length=es.length) (ps:List Int):(zIq es).hangsOn ((zIq es).reads rs)=false ↔ (sysOf es rs ps).NoHang:=by
 have h:=(Says.or (R:=(sysOf es rs ps).hangs) ⟨(f_hangs hn).1,(f_hangs hn).2⟩ (says_reads hn hr ps)).circles hn
 unfold Facts.hangsOn
 rw[bool_not h]
 exact⟨fun k i hi=>k ⟨i,hi⟩,fun k ⟨i,hi⟩=>k i hi⟩
structure Clash (es:List Ev) (X:Sys) (i k:Nat):Prop where
 li:i<es.length
 lk:k<es.length
 kind:(ev es i).kind=1
 ne:i≠k
 weak:¬ X.strong i k
 var:(ev es i).var=(ev es k).var
 acc:zIS (ev es k)=true
 ik:¬ X.before i k
 ki:¬ X.before k i
theorem not_hasR {r:List Nat} {R:Nat→Nat→Prop} {n:Nat} (hn:n≤64) (h:Says n r R) (i k:Nat) (hk:k<n):(!hasR r (i:Int) (k:Int))=true ↔ ¬ R i k:=by
 rw[Bool.not_eq_true',bool_not ((hasR_bit r i k (by omega)).trans (h.bit i k))]
theorem clash_iff (hn:es.length≤64) (hr:rs.length=es.length) (ps:List Int):(zIq es).clashes ((zIq es).before ((zIq es).reads rs))=true ↔ ∃ i k,Clash es (sysOf es rs ps) i k:=by
 have hs:Says es.length (zIq es).strong (sysOf es rs ps).strong:=⟨(f_strong hn).1,(f_strong hn).2⟩
 have hb:=says_before hn hr ps
 unfold Facts.clashes Facts.clashAt Facts.mayClash
 rw[factsOf_ev]
 simp only[List.any_eq_true,List.mem_range]
 constructor
 ·rintro ⟨i,hi,k,hk,h⟩
  rw[Bool.and_eq_true,Bool.and_eq_true,Bool.and_eq_true,Bool.and_eq_true,Bool.and_eq_true,Bool.and_eq_true,not_hasR hn hs i k hk,not_hasR hn hb i k hk,not_hasR hn hb k i hi] at h
  obtain⟨⟨⟨⟨⟨⟨a,b⟩,c⟩,d⟩,e⟩,f⟩,g⟩:=h
  exact⟨i,k,hi,hk,by simpa using a,by simpa using b,c,by simpa using d,e,f,g⟩
 ·rintro ⟨i,k,h⟩
  refine⟨i,h.li,k,h.lk,?_⟩
  rw[Bool.and_eq_true,Bool.and_eq_true,Bool.and_eq_true,Bool.and_eq_true,Bool.and_eq_true,Bool.and_eq_true,not_hasR hn hs i k h.lk,not_hasR hn hb i k h.lk,not_hasR hn hb k i h.li]
  exact⟨⟨⟨⟨⟨⟨by simp[h.kind],by simpa using h.ne⟩,h.weak⟩,by simp[h.var]⟩,h.acc⟩,h.ik⟩,h.ki⟩
end
end Q
namespace Q
structure EvLe (a b:Ev):Prop where
 kind:b.kind=a.kind
 block:b.block=a.block
 value:b.value=a.value
 step:b.step=a.step
 bars:b.bars=a.bars
 ord:a.order≠0→b.order≠0
 rel:P.rel a.order=true→P.rel b.order=true
 acq:P.acq a.order=true→P.acq b.order=true
 sc:a.kind=2→a.order=5→b.order=5
 scope:a.scope=1→b.scope=1
structure EHom (f:Nat→Nat) (es es':List Ev):Prop where
 lt:∀ i,i<es.length→f i<es'.length
 inj:∀ i k,i<es.length→k<es.length→f i=f k→i=k
 le:∀ i,i<es.length→EvLe (ev es i) (ev es' (f i))
 first:∀ i,i<es.length→((ev es' (f i)).thread=-1 ↔ (ev es i).thread=-1)
 thread:∀ i k,i<es.length→k<es.length→((ev es' (f i)).thread=(ev es' (f k)).thread ↔ (ev es i).thread=(ev es k).thread)
 var:∀ i k,i<es.length→k<es.length→zIS (ev es i)=true→zIS (ev es k)=true→((ev es' (f i)).var=(ev es' (f k)).var ↔ (ev es i).var=(ev es k).var)
 mono:∀ i k,i<es.length→k<es.length→(ev es i).thread≠-1→(ev es i).thread=(ev es k).thread→i<k→f i<f k
 step:∀ i k,i<es.length→(ev es i).kind=1→(ev es i).step=true→k+1=i→f k+1=f i
 hangs:∀ i k,i<es.length→k<es.length→hasS (ev es i).hangs (k:Int)=true→hasS (ev es' (f i)).hangs (f k:Nat)=true
section
variable {f:Nat→Nat} {es es':List Ev}
theorem ehom_ahead (h:EHom f es es') (i k:Nat) (hi:i<es.length) (hk:k<es.length) (e:zIh i (Q.ev es i) k (Q.ev es k)=true):zIh (f i:Nat) (Q.ev es' (f i)) (f k:Nat) (Q.ev es' (f k))=true:=by
 unfold zIh at e ⊢
 by_cases h1:(Q.ev es i).thread=-1
 ·rw[if_pos (by simpa using h1)] at e
  rw[if_pos (by simpa using (h.first i hi).2 h1)]
  have e':(Q.ev es k).thread≠-1:=by simpa using e
  have:(Q.ev es' (f k)).thread≠-1:=fun c=>e' ((h.first k hk).1 c)
  simpa using this
 ·rw[if_neg (by simpa using h1)] at e
  rw[if_neg (by simpa using fun c=>h1 ((h.first i hi).1 c))]
  rw[Bool.and_eq_true] at e ⊢
  have e1:(Q.ev es i).thread=(Q.ev es k).thread:=by simpa using e.1
  have e2:i<k:=by have:=of_decide_eq_true e.2;omega
  have:=h.mono i k hi hk h1 e1 e2
  exact⟨by simpa using (h.thread i k hi hk).2 e1,by simpa using this⟩
theorem ord_mono {a b:Ev} (h:EvLe a b) (e:isOrdE a=true):isOrdE b=true:=by
 unfold isOrdE at e ⊢
 rw[h.kind]
 rw[Bool.and_eq_true,Bool.and_eq_true] at e ⊢
 exact⟨⟨by simpa using h.ord (by simpa using e.1.1),e.1.2⟩,e.2⟩
theorem ehom_strong (h:EHom f es es') (i k:Nat) (hi:i<es.length) (hk:k<es.length) (e:Q.strong (Q.ev es i) (Q.ev es k)=true):Q.strong (Q.ev es' (f i)) (Q.ev es' (f k))=true:=by
 unfold Q.strong at e ⊢
 by_cases h1:(Q.ev es i).thread=-1∨(Q.ev es k).thread=-1
 ·rw[if_pos (by rcases h1 with h1 | h1<;>simp[h1])] at e;cases e
 ·have g1:¬ ((Q.ev es' (f i)).thread=-1∨(Q.ev es' (f k)).thread=-1):=fun c=>h1 (c.elim (fun c=>Or.inl ((h.first i hi).1 c)) (fun c=>Or.inr ((h.first k hk).1 c)))
  rw[if_neg (by simpa using h1)] at e
  rw[if_neg (by simpa using g1)]
  by_cases h2:(Q.ev es i).thread=(Q.ev es k).thread
  ·rw[if_pos (by simpa using (h.thread i k hi hk).2 h2)]
  ·rw[if_neg (by simpa using h2)] at e
   rw[if_neg (by simpa using fun c=>h2 ((h.thread i k hi hk).1 c))]
   cases o1:isOrdE (Q.ev es i)
   ·rw[o1] at e;simp at e
   ·cases o2:isOrdE (Q.ev es k)
    ·rw[o2] at e;simp at e
    ·rw[o1,o2] at e
     rw[ord_mono (h.le i hi) o1,ord_mono (h.le k hk) o2,(h.le i hi).block,(h.le k hk).block]
     simp only[Bool.not_true,Bool.or_self,Bool.false_eq_true,if_false,Bool.or_eq_true,beq_iff_eq,Bool.and_eq_true] at e ⊢
     rcases e with e | e
     ·exact Or.inl e
     ·exact Or.inr ⟨(h.le i hi).scope e.1,(h.le k hk).scope e.2⟩
theorem ehom_hom (h:EHom f es es') {rs rs' ps ps':List Int} (hr:∀ i k:Nat,i<es.length→k<es.length→rs.getD i (-1)=(k:Int)→rs'.getD (f i) (-1)=(f k:Nat)) (hb:∀ i k,i<es.length→k<es.length→zKk es ps i k=true→zKk es' ps' (f i) (f k)=true):Sys.Hom f (sysOf es rs ps) (sysOf es' rs' ps') where
 ahead i k:=fun ⟨hi,hk,e⟩=>⟨h.lt i hi,h.lt k hk,ehom_ahead h i k hi hk e⟩
 strong i k:=fun ⟨hi,hk,e⟩=>⟨h.lt i hi,h.lt k hk,by
  unfold zIl at e ⊢
  rw[Bool.and_eq_true] at e ⊢
  have:f i≠f k:=fun c=>by simpa [h.inj i k hi hk c] using e.1
  exact⟨by simpa using this,ehom_strong h i k hi hk e.2⟩⟩
 gathers i k:=fun ⟨hi,hk,e⟩=>⟨h.lt i hi,h.lt k hk,by
  unfold zIt at e ⊢
  rw[(h.le i hi).kind,(h.le k hk).kind,(h.le i hi).block,(h.le k hk).block,(h.le i hi).bars,(h.le k hk).bars]
  exact e⟩
 fences i k:=fun ⟨hi,hk,e⟩=>⟨h.lt i hi,h.lt k hk,by
  unfold zIj isSC at e ⊢
  rw[Bool.and_eq_true,Bool.and_eq_true,Bool.and_eq_true,Bool.and_eq_true,Bool.and_eq_true] at e ⊢
  have:f i≠f k:=fun c=>by simpa [h.inj i k hi hk c] using e.1.1.1
  have ki:(Q.ev es i).kind=2:=by simpa using e.1.2.1
  have kk:(Q.ev es k).kind=2:=by simpa using e.2.1
  refine⟨⟨⟨by simpa using this,ehom_strong h i k hi hk e.1.1.2⟩,by simp[(h.le i hi).kind,ki],?_⟩,by simp[(h.le k hk).kind,kk],?_⟩
  ·simpa using (h.le i hi).sc ki (by simpa using e.1.2.2)
  ·simpa using (h.le k hk).sc kk (by simpa using e.2.2)⟩
 halves i k:=fun ⟨hi,hk,e⟩=>⟨h.lt i hi,h.lt k hk,by
  unfold zIP at e ⊢
  rw[Bool.and_eq_true,Bool.and_eq_true] at e ⊢
  rw[(h.le i hi).kind,(h.le i hi).step]
  refine⟨e.1,?_⟩
  simpa using h.step i k hi (by simpa using e.1.1) (by simpa using e.1.2) (by simpa using e.2)⟩
 hangs i k:=fun ⟨hi,hk,e⟩=>⟨h.lt i hi,h.lt k hk,h.hangs i k hi hk e⟩
 sends i k:=fun ⟨hi,hk,e⟩=>⟨h.lt i hi,h.lt k hk,by
  unfold zJo at e ⊢
  rw[(h.le i hi).kind,(h.le k hk).kind]
  simp only[Bool.or_eq_true,Bool.and_eq_true] at e ⊢
  rcases e with e | e
  ·have ek:i=k:=by simpa using e.1
   exact Or.inl ⟨by simp[ek],e.2.1,(h.le i hi).rel e.2.2⟩
  ·exact Or.inr ⟨⟨ehom_ahead h i k hi hk e.1.1,e.1.2⟩,e.2⟩⟩
 takes i k:=fun ⟨hi,hk,e⟩=>⟨h.lt i hi,h.lt k hk,by
  unfold zJZ at e ⊢
  rw[(h.le i hi).kind,(h.le k hk).kind]
  simp only[Bool.or_eq_true,Bool.and_eq_true] at e ⊢
  rcases e with e | e
  ·have ek:i=k:=by simpa using e.1
   exact Or.inl ⟨by simp[ek],e.2.1,(h.le i hi).acq e.2.2⟩
  ·exact Or.inr ⟨⟨ehom_ahead h i k hi hk e.1.1,e.1.2⟩,e.2⟩⟩
 rd i k:=fun ⟨hk,hi,e⟩=>⟨h.lt k hk,h.lt i hi,hr i k hi hk e⟩
 bh i k:=fun ⟨hi,hk,e⟩=>⟨h.lt i hi,h.lt k hk,hb i k hi hk e⟩
 ord i:=fun e=>by
  by_cases hi:i<es.length
  ·exact (h.le i hi).ord e
  ·exfalso
   apply e
   show (Q.ev es i).order=0
   unfold Q.ev
   rw[List.getD_eq_getElem?_getD,List.getElem?_eq_none (by omega)]
   rfl
theorem ehom_clash (h:EHom f es es') (hs:∀ k,k<es'.length→zIS (Q.ev es' k)=true→∃ i,i<es.length∧f i=k) {X Y:Sys} (hh:Sys.Hom f X Y) {i k:Nat} (c:Clash es' Y i k):∃ i k,Clash es X i k:=by
 obtain⟨a,ha,rfl⟩:=hs i c.li (by unfold zIS;rw[c.kind];rfl)
 obtain⟨b,hb,rfl⟩:=hs k c.lk c.acc
 have ka:(Q.ev es a).kind=1:=by rw[← (h.le a ha).kind];exact c.kind
 have kb:zIS (Q.ev es b)=true:=by
  have:=c.acc
  unfold zIS at this ⊢
  rw[(h.le b hb).kind] at this
  exact this
 exact⟨a,b,ha,hb,ka,fun e=>c.ne (by rw[e]),fun e=>c.weak (hh.strong _ _ e),(h.var a b ha hb (by unfold zIS;rw[ka];rfl) kb).1 c.var,kb,fun e=>c.ik (hh.before _ _ e),fun e=>c.ki (hh.before _ _ e)⟩
end
end Q
end Go.Proofs.YtkmebkbpfmoeaaaGreat
namespace Go.Proofs.YtkmebkbpfmoeaaaGreat
open Go Go.RowKit
set_option maxRecDepth 100000
theorem zFW (c:Int) (w:World) (h0:-9223372036854775808≤c) (h1:c<9223372036854775808) :
  Calls Tryz.prog 14 #[.int .i64 c,.int .i64 29] w fun e w'=>∃ i:Nat,i<29∧e=.returned (.int .i64 (i:Int))∧w'=w:=by
 by_cases hc:c<0
 ·have hw1:IntKind.i64.wrap (c+1)=c+1:=by simp[IntKind.wrap,IntKind.signed,IntKind.bits];omega
  have hw2:IntKind.i64.wrap (-(c+1))=-(c+1):=by simp[IntKind.wrap,IntKind.signed,IntKind.bits];omega
  have hr:-((c+1).tmod 29)=(-(c+1)) % 29:=by rw[← Int.neg_tmod,Int.tmod_eq_emod_of_nonneg (by omega)]
  have HR:Hid (-((c+1).tmod 29)=(((-(c+1)) % 29).toNat:Int)):=by unfold Hid;rw[hr];omega
  clear hr
  go_enter Tryz.func14,Tryz.ntmps14
  go_wp2
  go_ret
  refine⟨((-(c+1)) % 29).toNat,by omega,?_,rfl⟩
  rw[← HR.out];rfl
 ·have HR:Hid (c % 29=((c % 29).toNat:Int)):=by unfold Hid;omega
  go_enter Tryz.func14,Tryz.ntmps14
  go_wp2
  go_ret
  refine⟨(c % 29).toNat,by omega,?_,rfl⟩
  rw[← HR.out];rfl
namespace P
def zKl (x one y two:List UInt8):List UInt8:=[116,104,114,101,97,100,32,48,10,115,116,111,114,101,32,120,32,49,32]++x++one++[115,116,111,114,101,32,121,32,49,32]++y++[116,104,114,101,97,100,32,49,10,114,48,32,61,32,108,111,97,100,32,121,32]++y++two++[114,49,32,61,32,108,111,97,100,32,120,32]++x
def zKb (b sc:List UInt8):List UInt8:=[116,104,114,101,97,100,32,48,10,115,116,111,114,101,32,120,32,49]++([32,114,101,108,97,120,101,100,32]++sc++[10])++b++[114,48,32,61,32,108,111,97,100,32,121]++([32,114,101,108,97,120,101,100,32]++sc++[10])++[116,104,114,101,97,100,32,49,10,115,116,111,114,101,32,121,32,49]++([32,114,101,108,97,120,101,100,32]++sc++[10])++b++[114,48,32,61,32,108,111,97,100,32,120]++([32,114,101,108,97,120,101,100,32]++sc++[10])
end P
theorem zEW (x one y two:ByteArray) (w:World) (h1:x.size≤1000) (h2:one.size≤1000) (h3:y.size≤1000) (h4:two.size≤1000) :
  Calls Tryz.prog 22 #[.string x,.string one,.string y,.string two] w fun e w'=>∃ t,e=.returned (.string t)∧t.toList=P.zKl x.toList one.toList y.toList two.toList∧w'=w:=by
 go_enter Tryz.func22,Tryz.ntmps22
 go_wp2
 go_ret
 refine⟨_,rfl,?_,rfl⟩
 simp only[P.zKl,zAq,zAe]
theorem zEx (b sc:ByteArray) (w:World) (h1:b.size≤1000) (h2:sc.size≤1000) :
  Calls Tryz.prog 23 #[.string b,.string sc] w fun e w'=>∃ t,e=.returned (.string t)∧t.toList=P.zKb b.toList sc.toList∧w'=w:=by
 go_enter Tryz.func23,Tryz.ntmps23
 go_wp2
 go_ret
 refine⟨_,rfl,?_,rfl⟩
 simp only[P.zKb,zAq,zAe]

end Go.Proofs.YtkmebkbpfmoeaaaGreat
namespace Go.Proofs.YtkmebkbpfmoeaaaGreat
open Go Go.RowKit

end Go.Proofs.YtkmebkbpfmoeaaaGreat
namespace Go.Proofs.YtkmebkbpfmoeaaaGreat
open Go Go.RowKit
set_option maxRecDepth 100000

namespace P
end P

theorem zEX (pr:Int→Bool) (l:List P.Stm):(P.zJV pr l).length≤3*l.length:=by
 induction l with
 | nil=>simp[P.zJV]
 | cons s r ih =>
  simp only[P.zJV,List.length_append,List.length_cons]
  have:(P.zKj pr s).length≤3:=by
   unfold P.zKj
   split
   ·cases P.rel s.order<;>cases P.acq s.order<;>simp
   ·simp
  omega
structure FI (w W:World) (o:Value) (acc:List P.Stm) (st f:P.Stm) (gs gf:Nat) (bx:Array Value):Prop where
 own:W.ownsRow w.heap.size 97 11 o acc.length (zBa acc)
 bel:Below w.heap.size w W
 s:zAu W gs st
 f:zAu W gf f
 ns:o.ownBlock≠some gs
 nf:o.ownBlock≠some gf
 hs:w.heap.size≤gs
 hf:w.heap.size≤gf
 ne:gf≠gs
 box:W.heap[w.heap.size]?=some (.cells bx 45 (0,0))
theorem FI.start {w wr w3:World} {o:Value} {acc:List P.Stm} {st f:P.Stm} {bx:Array Value} (hb:Below w.heap.size w wr) (hown:wr.ownsRow w.heap.size 97 11 o acc.length (zBa acc)) (hbox:wr.heap[w.heap.size]?=some (.cells bx 45 (0,0))) (hb3:Below (wr.alloc (.cells (zAd st) 97)).heap.size (wr.alloc (.cells (zAd st) 97)) w3) :
  FI w (w3.alloc (.cells (zAd f) 97)) o acc st f wr.heap.size w3.heap.size bx:=by
 have hW:Below wr.heap.size wr w3:=((Below.refl wr.heap.size wr).alloc (Nat.le_refl _) _).trans (hb3.mono (by simp))
 have h1:=hb.size
 have h2:=hW.size
 have hlt:w.heap.size<wr.heap.size:=(Array.getElem?_eq_some_iff.1 hbox).1
 have h3:wr.heap.size<w3.heap.size:=by have:=hb3.size;simp at this;omega
 refine⟨(zAc hown (fun j hj=>hW.block j (hown.lt j hj).2)).alloc _,(hb.trans (hW.mono h1)).alloc (by omega) _,((zAu.new wr st).below hb3).alloc _,zAu.new w3 f,fun e=>?_,fun e=>?_,h1,by omega,by omega,?_⟩
 ·have:=(hown.lt _ e).2;omega
 ·have:=(hown.lt _ e).2;omega
 ·rw[Below.heap_alloc _ _ _ (by omega),hW.block _ hlt];exact hbox
theorem FI.app {w W w1:World} {o:Value} {acc:List P.Stm} {st f:P.Stm} {gs gf g1 cap1:Nat} {bx:Array Value} (h:FI w W o acc st f gs gf bx) (x:P.Stm) (na:Nat) (hna:acc.length=na) (hgrow:(W.alloc (.cells (zAd x) 97)).grownBy w1 o.ownBlock) (hown1:w1.ownsRow w.heap.size 97 11 (.slice (some ⟨g1,0,none⟩) (na+1) cap1) (na+1) (zBa acc++(zAd x).toList)) (hat:o.ownBlock=some g1∨g1=W.heap.size+1) :
  FI w w1 (.slice (some ⟨g1,0,none⟩) (na+1) cap1) (acc++[x]) st f gs gf bx:=by
 subst hna
 have hlt:w.heap.size<W.heap.size:=(Array.getElem?_eq_some_iff.1 h.box).1
 have keep:∀ j,j<W.heap.size→o.ownBlock≠some j→w1.heap[j]?=W.heap[j]?:=fun j hj hn=>by
  rw[hgrow.block j (by simp;omega) (Ne.symm hn)];exact Below.heap_alloc _ _ _ hj
 have hsl:=h.s.lt
 have hfl:=h.f.lt
 have hnb:∀ g,g<W.heap.size→o.ownBlock≠some g→(Value.slice (some ⟨g1,0,none⟩) (acc.length+1) cap1).ownBlock≠some g:=fun g hg hn e=>by
  simp[Value.ownBlock] at e
  subst e
  rcases hat with ha | ha
  ·exact hn ha
  ·omega
 refine⟨by rw[zCY];simpa using hown1,(h.bel.alloc h.bel.size _).grown hgrow (by have:=h.bel.size;simp;omega) (fun j hj=>(h.own.lt j hj).1),h.s.of_block (keep gs hsl h.ns),h.f.of_block (keep gf hfl h.nf),hnb gs hsl h.ns,hnb gf hfl h.nf,h.hs,h.hf,h.ne,?_⟩
 rw[keep _ hlt (zBm h.own h.box (by decide))];exact h.box






end Go.Proofs.YtkmebkbpfmoeaaaGreat
namespace Go.Proofs.YtkmebkbpfmoeaaaGreat
namespace P
structure Nums (st:Stm):Prop where
 d0:0≤st.dest
 d1:st.dest<4
 a0:0≤st.a.n
 a1:st.a.n<4
 b0:0≤st.b.n
 b1:st.b.n<4
 l0:st.label=0
theorem nums_zero:Nums Stm.zero:=⟨by decide,by decide,by decide,by decide,by decide,by decide,rfl⟩
theorem digit_ok (c:UInt8) (n:Int) (h:(digit c n).2=true):0≤(digit c n).1∧(digit c n).1<n:=by
 simp[digit] at h ⊢
 omega
theorem register_ok (l:List UInt8) (h:(zIg l).2=true):0≤(zIg l).1∧(zIg l).1<4:=by
 unfold zIg at h ⊢
 split at h
 ·split at h
  ·rename_i h1;simp only[if_pos h1];exact digit_ok _ _ h
  ·simp at h
 ·simp at h
theorem operand_ok (l:List UInt8) (h:(zIs l).2=true):0≤(zIs l).1.n∧(zIs l).1.n<4:=by
 unfold zIs at h ⊢
 split at h
 ·exact digit_ok _ _ h
 ·exact register_ok _ h
theorem nums_ordering {st:Stm} (hs:Nums st) (ws:List (List UInt8)):Nums (zIW st ws).1:=by
 have h1:∀ o,Nums { st with order:=o }:=fun o=>⟨hs.d0,hs.d1,hs.a0,hs.a1,hs.b0,hs.b1,hs.l0⟩
 have h2:∀ o s,Nums { st with order:=o,scope:=s }:=fun o s=>⟨hs.d0,hs.d1,hs.a0,hs.a1,hs.b0,hs.b1,hs.l0⟩
 unfold zIW
 split
 ·exact hs
 ·split
  ·split
   ·exact h1 _
   ·split
    ·exact h2 _ _
    ·exact h1 _
  ·exact hs
theorem nums_target {st:Stm} (hs:Nums st) (p v:List UInt8) (h:(target st p v).2=true):Nums (target st p v).1:=by
 unfold target at h ⊢
 split at h
 ·rename_i h1
  simp only[h1,if_true]
  have:=operand_ok v h
  exact⟨hs.d0,hs.d1,this.1,this.2,hs.b0,hs.b1,hs.l0⟩
 ·simp at h
theorem nums_kind {st:Stm} (hs:Nums st) (k:Int):Nums { st with kind:=k }:=⟨hs.d0,hs.d1,hs.a0,hs.a1,hs.b0,hs.b1,hs.l0⟩
theorem nums_load {st:Stm} (hs:Nums st) (ws:List (List UInt8)):Nums (load st ws).1:=by
 unfold load
 split
 ·exact hs
 ·split
  ·refine nums_ordering (st:={ st with kind:=0,var:=_ }) ?_ _
   exact⟨hs.d0,hs.d1,hs.a0,hs.a1,hs.b0,hs.b1,hs.l0⟩
  ·exact hs
theorem nums_step {st:Stm} (hs:Nums st) (k:Int) (ws:List (List UInt8)) (h:(step st k ws).2=true):Nums (step st k ws).1:=by
 match ws,h with
 | [],h=>simp[step] at h
 | [_],h=>simp[step] at h
 | p::v::r,h =>
  cases ht:(target { st with kind:=k } p v).2
  ·rw[step_no st k p v r ht] at h;simp at h
  ·rw[step_yes st k p v r ht]
   exact nums_ordering (nums_target (nums_kind hs k) p v ht) r
theorem nums_sum {st:Stm} (hs:Nums st) (ws:List (List UInt8)) (h:(sum st ws).2=true):Nums (sum st ws).1:=by
 match ws,h with
 | [],h=>simp[sum] at h
 | [a],h =>
  cases ha:(zIs a).2
  ·simp[sum,ha] at h
  ·rw[sum_one st a ha]
   have:=operand_ok a ha
   exact⟨hs.d0,hs.d1,this.1,this.2,hs.b0,hs.b1,hs.l0⟩
 | [_,_],h=>simp[sum] at h
 | [a,s,b],h =>
  cases ha:(zIs a).2
  ·simp[sum,ha] at h
  ·cases hg:(sign s).2
   ·simp[sum,ha,hg] at h
   ·rw[sum_all st a s b ha hg] at h ⊢
    have h1:=operand_ok a ha
    have h2:=operand_ok b h
    exact⟨hs.d0,hs.d1,h1.1,h1.2,h2.1,h2.2,hs.l0⟩
 | _::_::_::_::_,h=>simp[sum] at h
theorem nums_assignment (ws:List (List UInt8)) (h:(zIm ws).2=true):Nums (zIm ws).1:=by
 match ws,h with
 | [],h=>simp[zIm] at h
 | [_],h=>simp[zIm] at h
 | [_,_],h=>simp[zIm] at h
 | d::e::c::r,h =>
  unfold zIm at h ⊢
  simp only at h ⊢
  by_cases he:(e==[61])=true
  ·by_cases hr:(zIg d).2=true
   ·rw[if_pos he,if_pos hr] at h ⊢
    have hd:=register_ok d hr
    have hz:Nums { Stm.zero with dest:=(zIg d).1 }:=⟨hd.1,hd.2,nums_zero.a0,nums_zero.a1,nums_zero.b0,nums_zero.b1,rfl⟩
    split at h
    ·rename_i h1;rw[if_pos h1];exact nums_load hz r
    ·rename_i h1
     rw[if_neg h1]
     split at h
     ·rename_i h2;rw[if_pos h2];exact nums_step hz 2 r h
     ·rename_i h2
      rw[if_neg h2]
      split at h
      ·rename_i h3;rw[if_pos h3];exact nums_step hz 3 r h
      ·rename_i h3;rw[if_neg h3];exact nums_sum hz (c::r) h
   ·rw[if_pos he,if_neg hr] at h;simp at h
  ·rw[if_neg he] at h;simp at h
theorem nums_statement (ws:List (List UInt8)) (h:(zIn ws).2=true):Nums (zIn ws).1:=by
 match ws,h with
 | [],h=>simp[zIn] at h
 | c::r,h =>
  unfold zIn at h ⊢
  simp only at h ⊢
  split at h
  ·rename_i h1
   rw[if_pos h1]
   match r,h with
   | [],h=>simp[store] at h
   | [_],h=>simp[store] at h
   | p::v::q,h =>
    unfold store at h ⊢
    simp only at h ⊢
    cases ht:(target { Stm.zero with kind:=1 } p v).2
    ·simp[ht] at h
    ·simp only[if_true]
     exact nums_ordering (nums_target (nums_kind nums_zero 1) p v ht) q
  ·rename_i h1
   rw[if_neg h1]
   split at h
   ·rename_i h2
    rw[if_pos h2]
    exact nums_ordering (nums_kind nums_zero 4) r
   ·rename_i h2
    rw[if_neg h2]
    split at h
    ·rename_i h3;rw[if_pos h3];exact nums_kind nums_zero 5
    ·rename_i h3
     rw[if_neg h3]
     split at h
     ·rename_i h4
      rw[if_pos h4]
      match r,h with
      | [],h=>simp[zJu] at h
      | [a],h =>
       have:=operand_ok a h
       exact⟨nums_zero.d0,nums_zero.d1,this.1,this.2,nums_zero.b0,nums_zero.b1,rfl⟩
      | _::_::_,h=>simp[zJu] at h
     ·rename_i h4
      rw[if_neg h4]
      split at h
      ·rename_i h5;rw[if_pos h5];exact nums_kind nums_zero 11
      ·rename_i h5;rw[if_neg h5];exact nums_assignment (c::r) h
end P
end Go.Proofs.YtkmebkbpfmoeaaaGreat
