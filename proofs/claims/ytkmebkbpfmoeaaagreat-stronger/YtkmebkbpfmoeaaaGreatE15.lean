import Derived.Deep.Draws
import Derived.Laws.AppendOwnNone
import Derived.Test.YtkmebkbpfmoeaaaGreatE14
import Derived.Test.YtkmebkbpfmoeaaaGreatE12
set_option linter.unusedVariables false
set_option linter.unusedSimpArgs false
set_option maxHeartbeats 12800000
namespace Go.Proofs.YtkmebkbpfmoeaaaGreat
namespace Q
structure EvLe (a b:Ev):Prop where
 kind:b.kind=a.kind
 block:b.block=a.block
 value:b.value=a.value
 step:b.step=a.step
 bars:b.bars=a.bars
 ord:a.order≠0→b.order≠0
 rel:P.rel a.order=true→P.rel b.order=true
 acq:P.acq a.order=true→P.acq b.order=true
 sc:a.kind=2→a.order=5→b.order=5
 scope:a.scope=1→b.scope=1
structure EHom (f:Nat→Nat) (es es':List Ev):Prop where
 lt:∀ i,i<es.length→f i<es'.length
 inj:∀ i k,i<es.length→k<es.length→f i=f k→i=k
 le:∀ i,i<es.length→EvLe (ev es i) (ev es' (f i))
 first:∀ i,i<es.length→((ev es' (f i)).thread=-1 ↔ (ev es i).thread=-1)
 thread:∀ i k,i<es.length→k<es.length→((ev es' (f i)).thread=(ev es' (f k)).thread ↔ (ev es i).thread=(ev es k).thread)
 var:∀ i k,i<es.length→k<es.length→((ev es' (f i)).var=(ev es' (f k)).var ↔ (ev es i).var=(ev es k).var)
 mono:∀ i k,i<es.length→k<es.length→(ev es i).thread≠-1→(ev es i).thread=(ev es k).thread→i<k→f i<f k
 step:∀ i k,i<es.length→(ev es i).kind=1→(ev es i).step=true→k+1=i→f k+1=f i
 hangs:∀ i k,i<es.length→k<es.length→hasS (ev es i).hangs (k:Int)=true→hasS (ev es' (f i)).hangs (f k:Nat)=true
section
variable {f:Nat→Nat} {es es':List Ev}
theorem ehom_ahead (h:EHom f es es') (i k:Nat) (hi:i<es.length) (hk:k<es.length) (e:zIl i (Q.ev es i) k (Q.ev es k)=true):zIl (f i:Nat) (Q.ev es' (f i)) (f k:Nat) (Q.ev es' (f k))=true:=by
 unfold zIl at e ⊢
 by_cases h1:(Q.ev es i).thread=-1
 ·rw[if_pos (by simpa using h1)] at e
  rw[if_pos (by simpa using (h.first i hi).2 h1)]
  have e':(Q.ev es k).thread≠-1:=by simpa using e
  have:(Q.ev es' (f k)).thread≠-1:=fun c=>e' ((h.first k hk).1 c)
  simpa using this
 ·rw[if_neg (by simpa using h1)] at e
  rw[if_neg (by simpa using fun c=>h1 ((h.first i hi).1 c))]
  rw[Bool.and_eq_true] at e ⊢
  have e1:(Q.ev es i).thread=(Q.ev es k).thread:=by simpa using e.1
  have e2:i<k:=by have:=of_decide_eq_true e.2;omega
  have:=h.mono i k hi hk h1 e1 e2
  exact⟨by simpa using (h.thread i k hi hk).2 e1,by simpa using this⟩
theorem ord_mono {a b:Ev} (h:EvLe a b) (e:isOrdE a=true):isOrdE b=true:=by
 unfold isOrdE at e ⊢
 rw[h.kind]
 rw[Bool.and_eq_true,Bool.and_eq_true] at e ⊢
 exact⟨⟨by simpa using h.ord (by simpa using e.1.1),e.1.2⟩,e.2⟩
theorem ehom_strong (h:EHom f es es') (i k:Nat) (hi:i<es.length) (hk:k<es.length) (e:Q.strong (Q.ev es i) (Q.ev es k)=true):Q.strong (Q.ev es' (f i)) (Q.ev es' (f k))=true:=by
 unfold Q.strong at e ⊢
 by_cases h1:(Q.ev es i).thread=-1∨(Q.ev es k).thread=-1
 ·rw[if_pos (by rcases h1 with h1 | h1<;>simp[h1])] at e;cases e
 ·have g1:¬ ((Q.ev es' (f i)).thread=-1∨(Q.ev es' (f k)).thread=-1):=fun c=>h1 (c.elim (fun c=>Or.inl ((h.first i hi).1 c)) (fun c=>Or.inr ((h.first k hk).1 c)))
  rw[if_neg (by simpa using h1)] at e
  rw[if_neg (by simpa using g1)]
  by_cases h2:(Q.ev es i).thread=(Q.ev es k).thread
  ·rw[if_pos (by simpa using (h.thread i k hi hk).2 h2)]
  ·rw[if_neg (by simpa using h2)] at e
   rw[if_neg (by simpa using fun c=>h2 ((h.thread i k hi hk).1 c))]
   cases o1:isOrdE (Q.ev es i)
   ·rw[o1] at e;simp at e
   ·cases o2:isOrdE (Q.ev es k)
    ·rw[o2] at e;simp at e
    ·rw[o1,o2] at e
     rw[ord_mono (h.le i hi) o1,ord_mono (h.le k hk) o2,(h.le i hi).block,(h.le k hk).block]
     simp only[Bool.not_true,Bool.or_self,Bool.false_eq_true,if_false,Bool.or_eq_true,beq_iff_eq,Bool.and_eq_true] at e ⊢
     rcases e with e | e
     ·exact Or.inl e
     ·exact Or.inr ⟨(h.le i hi).scope e.1,(h.le k hk).scope e.2⟩
theorem ehom_hom (h:EHom f es es') {rs rs' ps ps':List Int} (hr:∀ i k:Nat,i<es.length→k<es.length→rs.getD i (-1)=(k:Int)→rs'.getD (f i) (-1)=(f k:Nat)) (hb:∀ i k,i<es.length→k<es.length→zKx es ps i k=true→zKx es' ps' (f i) (f k)=true):Sys.Hom f (sysOf es rs ps) (sysOf es' rs' ps') where
 ahead i k:=fun ⟨hi,hk,e⟩=>⟨h.lt i hi,h.lt k hk,ehom_ahead h i k hi hk e⟩
 strong i k:=fun ⟨hi,hk,e⟩=>⟨h.lt i hi,h.lt k hk,by
  unfold zIo at e ⊢
  rw[Bool.and_eq_true] at e ⊢
  have:f i≠f k:=fun c=>by simpa [h.inj i k hi hk c] using e.1
  exact⟨by simpa using this,ehom_strong h i k hi hk e.2⟩⟩
 gathers i k:=fun ⟨hi,hk,e⟩=>⟨h.lt i hi,h.lt k hk,by
  unfold zIw at e ⊢
  rw[(h.le i hi).kind,(h.le k hk).kind,(h.le i hi).block,(h.le k hk).block,(h.le i hi).bars,(h.le k hk).bars]
  exact e⟩
 fences i k:=fun ⟨hi,hk,e⟩=>⟨h.lt i hi,h.lt k hk,by
  unfold zIn isSC at e ⊢
  rw[Bool.and_eq_true,Bool.and_eq_true,Bool.and_eq_true,Bool.and_eq_true,Bool.and_eq_true] at e ⊢
  have:f i≠f k:=fun c=>by simpa [h.inj i k hi hk c] using e.1.1.1
  have ki:(Q.ev es i).kind=2:=by simpa using e.1.2.1
  have kk:(Q.ev es k).kind=2:=by simpa using e.2.1
  refine⟨⟨⟨by simpa using this,ehom_strong h i k hi hk e.1.1.2⟩,by simp[(h.le i hi).kind,ki],?_⟩,by simp[(h.le k hk).kind,kk],?_⟩
  ·simpa using (h.le i hi).sc ki (by simpa using e.1.2.2)
  ·simpa using (h.le k hk).sc kk (by simpa using e.2.2)⟩
 halves i k:=fun ⟨hi,hk,e⟩=>⟨h.lt i hi,h.lt k hk,by
  unfold zIS at e ⊢
  rw[Bool.and_eq_true,Bool.and_eq_true] at e ⊢
  rw[(h.le i hi).kind,(h.le i hi).step]
  refine⟨e.1,?_⟩
  simpa using h.step i k hi (by simpa using e.1.1) (by simpa using e.1.2) (by simpa using e.2)⟩
 hangs i k:=fun ⟨hi,hk,e⟩=>⟨h.lt i hi,h.lt k hk,h.hangs i k hi hk e⟩
 sends i k:=fun ⟨hi,hk,e⟩=>⟨h.lt i hi,h.lt k hk,by
  unfold zJu at e ⊢
  rw[(h.le i hi).kind,(h.le k hk).kind]
  simp only[Bool.or_eq_true,Bool.and_eq_true] at e ⊢
  rcases e with e | e
  ·have ek:i=k:=by simpa using e.1
   exact Or.inl ⟨by simp[ek],e.2.1,(h.le i hi).rel e.2.2⟩
  ·exact Or.inr ⟨⟨ehom_ahead h i k hi hk e.1.1,e.1.2⟩,e.2⟩⟩
 takes i k:=fun ⟨hi,hk,e⟩=>⟨h.lt i hi,h.lt k hk,by
  unfold zKk at e ⊢
  rw[(h.le i hi).kind,(h.le k hk).kind]
  simp only[Bool.or_eq_true,Bool.and_eq_true] at e ⊢
  rcases e with e | e
  ·have ek:i=k:=by simpa using e.1
   exact Or.inl ⟨by simp[ek],e.2.1,(h.le i hi).acq e.2.2⟩
  ·exact Or.inr ⟨⟨ehom_ahead h i k hi hk e.1.1,e.1.2⟩,e.2⟩⟩
 rd i k:=fun ⟨hk,hi,e⟩=>⟨h.lt k hk,h.lt i hi,hr i k hi hk e⟩
 bh i k:=fun ⟨hi,hk,e⟩=>⟨h.lt i hi,h.lt k hk,hb i k hi hk e⟩
 ord i:=fun e=>by
  by_cases hi:i<es.length
  ·exact (h.le i hi).ord e
  ·exfalso
   apply e
   show (Q.ev es i).order=0
   unfold Q.ev
   rw[List.getD_eq_getElem?_getD,List.getElem?_eq_none (by omega)]
   rfl
theorem ehom_clash (h:EHom f es es') (hs:∀ k,k<es'.length→zIW (Q.ev es' k)=true→∃ i,i<es.length∧f i=k) {X Y:Sys} (hh:Sys.Hom f X Y) {i k:Nat} (c:Clash es' Y i k):∃ i k,Clash es X i k:=by
 obtain⟨a,ha,rfl⟩:=hs i c.li (by unfold zIW;rw[c.kind];rfl)
 obtain⟨b,hb,rfl⟩:=hs k c.lk c.acc
 refine⟨a,b,ha,hb,by rw[← (h.le a ha).kind];exact c.kind,fun e=>c.ne (by rw[e]),fun e=>c.weak (hh.strong _ _ e),(h.var a b ha hb).1 c.var,?_,fun e=>c.ik (hh.before _ _ e),fun e=>c.ki (hh.before _ _ e)⟩
 have:=c.acc
 unfold zIW at this ⊢
 rw[(h.le b hb).kind] at this
 exact this
end
end Q
end Go.Proofs.YtkmebkbpfmoeaaaGreat
namespace Go.Proofs.YtkmebkbpfmoeaaaGreat
open Go Go.RowKit
set_option maxRecDepth 100000
theorem zGa (c:Int) (w:World) (h0:-9223372036854775808≤c) (h1:c<9223372036854775808) :
  Calls Tryz.prog 14 #[.int .i64 c,.int .i64 29] w fun e w'=>∃ i:Nat,i<29∧e=.returned (.int .i64 (i:Int))∧w'=w:=by
 by_cases hc:c<0
 ·have hw1:IntKind.i64.wrap (c+1)=c+1:=by simp[IntKind.wrap,IntKind.signed,IntKind.bits];omega
  have hw2:IntKind.i64.wrap (-(c+1))=-(c+1):=by simp[IntKind.wrap,IntKind.signed,IntKind.bits];omega
  have hr:-((c+1).tmod 29)=(-(c+1)) % 29:=by rw[← Int.neg_tmod,Int.tmod_eq_emod_of_nonneg (by omega)]
  have HR:Hid (-((c+1).tmod 29)=(((-(c+1)) % 29).toNat:Int)):=by unfold Hid;rw[hr];omega
  clear hr
  go_enter Tryz.func14,Tryz.ntmps14
  go_wp2
  go_ret
  refine⟨((-(c+1)) % 29).toNat,by omega,?_,rfl⟩
  rw[← HR.out];rfl
 ·have HR:Hid (c % 29=((c % 29).toNat:Int)):=by unfold Hid;omega
  go_enter Tryz.func14,Tryz.ntmps14
  go_wp2
  go_ret
  refine⟨(c % 29).toNat,by omega,?_,rfl⟩
  rw[← HR.out];rfl
namespace P
def zKy (x one y two:List UInt8):List UInt8:=[116,104,114,101,97,100,32,48,10,115,116,111,114,101,32,120,32,49,32]++x++one++[115,116,111,114,101,32,121,32,49,32]++y++[116,104,114,101,97,100,32,49,10,114,48,32,61,32,108,111,97,100,32,121,32]++y++two++[114,49,32,61,32,108,111,97,100,32,120,32]++x
def zKm (b sc:List UInt8):List UInt8:=[116,104,114,101,97,100,32,48,10,115,116,111,114,101,32,120,32,49]++([32,114,101,108,97,120,101,100,32]++sc++[10])++b++[114,48,32,61,32,108,111,97,100,32,121]++([32,114,101,108,97,120,101,100,32]++sc++[10])++[116,104,114,101,97,100,32,49,10,115,116,111,114,101,32,121,32,49]++([32,114,101,108,97,120,101,100,32]++sc++[10])++b++[114,48,32,61,32,108,111,97,100,32,120]++([32,114,101,108,97,120,101,100,32]++sc++[10])
end P
theorem zFe (x one y two:ByteArray) (w:World) (h1:x.size≤1000) (h2:one.size≤1000) (h3:y.size≤1000) (h4:two.size≤1000) :
  Calls Tryz.prog 22 #[.string x,.string one,.string y,.string two] w fun e w'=>∃ t,e=.returned (.string t)∧t.toList=P.zKy x.toList one.toList y.toList two.toList∧w'=w:=by
 go_enter Tryz.func22,Tryz.ntmps22
 go_wp2
 go_ret
 refine⟨_,rfl,?_,rfl⟩
 simp only[P.zKy,zAr,zAc]
theorem zED (b sc:ByteArray) (w:World) (h1:b.size≤1000) (h2:sc.size≤1000) :
  Calls Tryz.prog 23 #[.string b,.string sc] w fun e w'=>∃ t,e=.returned (.string t)∧t.toList=P.zKm b.toList sc.toList∧w'=w:=by
 go_enter Tryz.func23,Tryz.ntmps23
 go_wp2
 go_ret
 refine⟨_,rfl,?_,rfl⟩
 simp only[P.zKm,zAr,zAc]

end Go.Proofs.YtkmebkbpfmoeaaaGreat
namespace Go.Proofs.YtkmebkbpfmoeaaaGreat
open Go Go.RowKit

end Go.Proofs.YtkmebkbpfmoeaaaGreat
namespace Go.Proofs.YtkmebkbpfmoeaaaGreat
open Go Go.RowKit
set_option maxRecDepth 100000

namespace P
end P

theorem zFf (pr:Int→Bool) (l:List P.Stm):(P.zKf pr l).length≤3*l.length:=by
 induction l with
 | nil=>simp[P.zKf]
 | cons s r ih =>
  simp only[P.zKf,List.length_append,List.length_cons]
  have:(P.zKw pr s).length≤3:=by
   unfold P.zKw
   split
   ·cases P.rel s.order<;>cases P.acq s.order<;>simp
   ·simp
  omega
structure FI (w W:World) (o:Value) (acc:List P.Stm) (st f:P.Stm) (gs gf:Nat) (bx:Array Value):Prop where
 own:W.ownsRow w.heap.size 97 11 o acc.length (zBc acc)
 bel:Below w.heap.size w W
 s:zAv W gs st
 f:zAv W gf f
 ns:o.ownBlock≠some gs
 nf:o.ownBlock≠some gf
 hs:w.heap.size≤gs
 hf:w.heap.size≤gf
 ne:gf≠gs
 box:W.heap[w.heap.size]?=some (.cells bx 45 (0,0))
theorem FI.start {w wr w3:World} {o:Value} {acc:List P.Stm} {st f:P.Stm} {bx:Array Value} (hb:Below w.heap.size w wr) (hown:wr.ownsRow w.heap.size 97 11 o acc.length (zBc acc)) (hbox:wr.heap[w.heap.size]?=some (.cells bx 45 (0,0))) (hb3:Below (wr.alloc (.cells (zAe st) 97)).heap.size (wr.alloc (.cells (zAe st) 97)) w3) :
  FI w (w3.alloc (.cells (zAe f) 97)) o acc st f wr.heap.size w3.heap.size bx:=by
 have hW:Below wr.heap.size wr w3:=((Below.refl wr.heap.size wr).alloc (Nat.le_refl _) _).trans (hb3.mono (by simp))
 have h1:=hb.size
 have h2:=hW.size
 have hlt:w.heap.size<wr.heap.size:=(Array.getElem?_eq_some_iff.1 hbox).1
 have h3:wr.heap.size<w3.heap.size:=by have:=hb3.size;simp at this;omega
 refine⟨(zAd hown (fun j hj=>hW.block j (hown.lt j hj).2)).alloc _,(hb.trans (hW.mono h1)).alloc (by omega) _,((zAv.new wr st).below hb3).alloc _,zAv.new w3 f,fun e=>?_,fun e=>?_,h1,by omega,by omega,?_⟩
 ·have:=(hown.lt _ e).2;omega
 ·have:=(hown.lt _ e).2;omega
 ·rw[Below.heap_alloc _ _ _ (by omega),hW.block _ hlt];exact hbox
theorem FI.app {w W w1:World} {o:Value} {acc:List P.Stm} {st f:P.Stm} {gs gf g1 cap1:Nat} {bx:Array Value} (h:FI w W o acc st f gs gf bx) (x:P.Stm) (na:Nat) (hna:acc.length=na) (hgrow:(W.alloc (.cells (zAe x) 97)).grownBy w1 o.ownBlock) (hown1:w1.ownsRow w.heap.size 97 11 (.slice (some ⟨g1,0,none⟩) (na+1) cap1) (na+1) (zBc acc++(zAe x).toList)) (hat:o.ownBlock=some g1∨g1=W.heap.size+1) :
  FI w w1 (.slice (some ⟨g1,0,none⟩) (na+1) cap1) (acc++[x]) st f gs gf bx:=by
 subst hna
 have hlt:w.heap.size<W.heap.size:=(Array.getElem?_eq_some_iff.1 h.box).1
 have keep:∀ j,j<W.heap.size→o.ownBlock≠some j→w1.heap[j]?=W.heap[j]?:=fun j hj hn=>by
  rw[hgrow.block j (by simp;omega) (Ne.symm hn)];exact Below.heap_alloc _ _ _ hj
 have hsl:=h.s.lt
 have hfl:=h.f.lt
 have hnb:∀ g,g<W.heap.size→o.ownBlock≠some g→(Value.slice (some ⟨g1,0,none⟩) (acc.length+1) cap1).ownBlock≠some g:=fun g hg hn e=>by
  simp[Value.ownBlock] at e
  subst e
  rcases hat with ha | ha
  ·exact hn ha
  ·omega
 refine⟨by rw[zCX];simpa using hown1,(h.bel.alloc h.bel.size _).grown hgrow (by have:=h.bel.size;simp;omega) (fun j hj=>(h.own.lt j hj).1),h.s.of_block (keep gs hsl h.ns),h.f.of_block (keep gf hfl h.nf),hnb gs hsl h.ns,hnb gf hfl h.nf,h.hs,h.hf,h.ne,?_⟩
 rw[keep _ hlt (zBn h.own h.box (by decide))];exact h.box






end Go.Proofs.YtkmebkbpfmoeaaaGreat
namespace Go.Proofs.YtkmebkbpfmoeaaaGreat
namespace P
structure Nums (st:Stm):Prop where
 d0:0≤st.dest
 d1:st.dest<4
 a0:0≤st.a.n
 a1:st.a.n<4
 b0:0≤st.b.n
 b1:st.b.n<4
 l0:st.label=0
theorem nums_zero:Nums Stm.zero:=⟨by decide,by decide,by decide,by decide,by decide,by decide,rfl⟩
theorem digit_ok (c:UInt8) (n:Int) (h:(digit c n).2=true):0≤(digit c n).1∧(digit c n).1<n:=by
 simp[digit] at h ⊢
 omega
theorem register_ok (l:List UInt8) (h:(zIk l).2=true):0≤(zIk l).1∧(zIk l).1<4:=by
 unfold zIk at h ⊢
 split at h
 ·split at h
  ·rename_i h1;simp only[if_pos h1];exact digit_ok _ _ h
  ·simp at h
 ·simp at h
theorem operand_ok (l:List UInt8) (h:(zIv l).2=true):0≤(zIv l).1.n∧(zIv l).1.n<4:=by
 unfold zIv at h ⊢
 split at h
 ·exact digit_ok _ _ h
 ·exact register_ok _ h
theorem nums_ordering {st:Stm} (hs:Nums st) (ws:List (List UInt8)):Nums (zJa st ws).1:=by
 have h1:∀ o,Nums { st with order:=o }:=fun o=>⟨hs.d0,hs.d1,hs.a0,hs.a1,hs.b0,hs.b1,hs.l0⟩
 have h2:∀ o s,Nums { st with order:=o,scope:=s }:=fun o s=>⟨hs.d0,hs.d1,hs.a0,hs.a1,hs.b0,hs.b1,hs.l0⟩
 unfold zJa
 split
 ·exact hs
 ·split
  ·split
   ·exact h1 _
   ·split
    ·exact h2 _ _
    ·exact h1 _
  ·exact hs
theorem nums_target {st:Stm} (hs:Nums st) (p v:List UInt8) (h:(target st p v).2=true):Nums (target st p v).1:=by
 unfold target at h ⊢
 split at h
 ·rename_i h1
  simp only[h1,if_true]
  have:=operand_ok v h
  exact⟨hs.d0,hs.d1,this.1,this.2,hs.b0,hs.b1,hs.l0⟩
 ·simp at h
theorem nums_kind {st:Stm} (hs:Nums st) (k:Int):Nums { st with kind:=k }:=⟨hs.d0,hs.d1,hs.a0,hs.a1,hs.b0,hs.b1,hs.l0⟩
theorem nums_load {st:Stm} (hs:Nums st) (ws:List (List UInt8)):Nums (load st ws).1:=by
 unfold load
 split
 ·exact hs
 ·split
  ·refine nums_ordering (st:={ st with kind:=0,var:=_ }) ?_ _
   exact⟨hs.d0,hs.d1,hs.a0,hs.a1,hs.b0,hs.b1,hs.l0⟩
  ·exact hs
theorem nums_step {st:Stm} (hs:Nums st) (k:Int) (ws:List (List UInt8)) (h:(step st k ws).2=true):Nums (step st k ws).1:=by
 match ws,h with
 | [],h=>simp[step] at h
 | [_],h=>simp[step] at h
 | p::v::r,h =>
  cases ht:(target { st with kind:=k } p v).2
  ·rw[step_no st k p v r ht] at h;simp at h
  ·rw[step_yes st k p v r ht]
   exact nums_ordering (nums_target (nums_kind hs k) p v ht) r
theorem nums_sum {st:Stm} (hs:Nums st) (ws:List (List UInt8)) (h:(sum st ws).2=true):Nums (sum st ws).1:=by
 match ws,h with
 | [],h=>simp[sum] at h
 | [a],h =>
  cases ha:(zIv a).2
  ·simp[sum,ha] at h
  ·rw[sum_one st a ha]
   have:=operand_ok a ha
   exact⟨hs.d0,hs.d1,this.1,this.2,hs.b0,hs.b1,hs.l0⟩
 | [_,_],h=>simp[sum] at h
 | [a,s,b],h =>
  cases ha:(zIv a).2
  ·simp[sum,ha] at h
  ·cases hg:(sign s).2
   ·simp[sum,ha,hg] at h
   ·rw[sum_all st a s b ha hg] at h ⊢
    have h1:=operand_ok a ha
    have h2:=operand_ok b h
    exact⟨hs.d0,hs.d1,h1.1,h1.2,h2.1,h2.2,hs.l0⟩
 | _::_::_::_::_,h=>simp[sum] at h
theorem nums_assignment (ws:List (List UInt8)) (h:(zIq ws).2=true):Nums (zIq ws).1:=by
 match ws,h with
 | [],h=>simp[zIq] at h
 | [_],h=>simp[zIq] at h
 | [_,_],h=>simp[zIq] at h
 | d::e::c::r,h =>
  unfold zIq at h ⊢
  simp only at h ⊢
  by_cases he:(e==[61])=true
  ·by_cases hr:(zIk d).2=true
   ·rw[if_pos he,if_pos hr] at h ⊢
    have hd:=register_ok d hr
    have hz:Nums { Stm.zero with dest:=(zIk d).1 }:=⟨hd.1,hd.2,nums_zero.a0,nums_zero.a1,nums_zero.b0,nums_zero.b1,rfl⟩
    split at h
    ·rename_i h1;rw[if_pos h1];exact nums_load hz r
    ·rename_i h1
     rw[if_neg h1]
     split at h
     ·rename_i h2;rw[if_pos h2];exact nums_step hz 2 r h
     ·rename_i h2
      rw[if_neg h2]
      split at h
      ·rename_i h3;rw[if_pos h3];exact nums_step hz 3 r h
      ·rename_i h3;rw[if_neg h3];exact nums_sum hz (c::r) h
   ·rw[if_pos he,if_neg hr] at h;simp at h
  ·rw[if_neg he] at h;simp at h
theorem nums_statement (ws:List (List UInt8)) (h:(zIr ws).2=true):Nums (zIr ws).1:=by
 match ws,h with
 | [],h=>simp[zIr] at h
 | c::r,h =>
  unfold zIr at h ⊢
  simp only at h ⊢
  split at h
  ·rename_i h1
   rw[if_pos h1]
   match r,h with
   | [],h=>simp[store] at h
   | [_],h=>simp[store] at h
   | p::v::q,h =>
    unfold store at h ⊢
    simp only at h ⊢
    cases ht:(target { Stm.zero with kind:=1 } p v).2
    ·simp[ht] at h
    ·simp only[if_true]
     exact nums_ordering (nums_target (nums_kind nums_zero 1) p v ht) q
  ·rename_i h1
   rw[if_neg h1]
   split at h
   ·rename_i h2
    rw[if_pos h2]
    exact nums_ordering (nums_kind nums_zero 4) r
   ·rename_i h2
    rw[if_neg h2]
    split at h
    ·rename_i h3;rw[if_pos h3];exact nums_kind nums_zero 5
    ·rename_i h3
     rw[if_neg h3]
     split at h
     ·rename_i h4
      rw[if_pos h4]
      match r,h with
      | [],h=>simp[zJz] at h
      | [a],h =>
       have:=operand_ok a h
       exact⟨nums_zero.d0,nums_zero.d1,this.1,this.2,nums_zero.b0,nums_zero.b1,rfl⟩
      | _::_::_,h=>simp[zJz] at h
     ·rename_i h4
      rw[if_neg h4]
      split at h
      ·rename_i h5;rw[if_pos h5];exact nums_kind nums_zero 11
      ·rename_i h5;rw[if_neg h5];exact nums_assignment (c::r) h
end P
namespace P
structure Tidy (r:Rd):Prop where
 few:r.threads.length≤4
 c0:0≤r.count
 c8:r.count≤8
 none:r.threads=[]→r.count=0
 i0:0≤r.ifs
 i1:r.ifs≤8*((r.threads.length-1:Nat):Int)+r.count
 opn:∀ o∈r.opn,0≤o∧o<100
 thr:∀ t∈r.threads,0≤t.block∧t.block<100∧∀ s∈t.stmts,Small s
theorem tidy_zero:Tidy Rd.zero:=⟨by simp[Rd.zero],by simp[Rd.zero],by simp[Rd.zero],by simp[Rd.zero],by simp[Rd.zero],by simp[Rd.zero],by simp[Rd.zero],by simp[Rd.zero]⟩
theorem small_of {st:Stm} (h:Nums st) (ln lb:Int) (h0:0≤lb) (h1:lb<100):Small { st with line:=ln,label:=lb } :=
 ⟨h.d0,by have:=h.d1;show st.dest<100;omega,h.a0,by have:=h.a1;show st.a.n<100;omega,h.b0,by have:=h.b1;show st.b.n<100;omega,h0,h1⟩
theorem putLast_thr (ts:List Thr) (s:Stm) (hs:Small s) (h:∀ t∈ts,0≤t.block∧t.block<100∧∀ s∈t.stmts,Small s):∀ t∈putLast ts s,0≤t.block∧t.block<100∧∀ s∈t.stmts,Small s:=by
 match ts,h with
 | [],h=>intro t ht;simp[putLast] at ht
 | [a],h =>
  intro t ht
  simp[putLast] at ht
  subst ht
  have:=h a (by simp)
  refine⟨this.1,this.2.1,fun x hx=>?_⟩
  simp at hx
  rcases hx with hx | rfl
  ·exact this.2.2 x hx
  ·exact hs
 | a::b::r,h =>
  intro t ht
  simp only[putLast,List.mem_cons] at ht
  rcases ht with rfl | ht
  ·exact h t (by simp)
  ·exact putLast_thr (b::r) s hs (fun t ht=>h t (by simp at ht ⊢;right;exact ht)) t ht
theorem tidy_put {r:Rd} (s:Stm) (h:Tidy r) (hs:Small s):Tidy (put r s):=by
 have hl:(put r s).threads.length=r.threads.length:=putLast_length _ _
 refine⟨by rw[hl];exact h.few,h.c0,h.c8,fun e=>h.none (by have:=congrArg List.length e;rw[hl] at this;exact List.eq_nil_of_length_eq_zero (by simpa using this)),h.i0,by rw[hl];exact h.i1,h.opn,putLast_thr _ _ hs h.thr⟩
theorem tidy_takes {r:Rd} (ws:List (List UInt8)) (h:Tidy r):Tidy (takes { r with line:=r.line+1 } ws).1:=by
 have h0:Tidy { r with line:=r.line+1 }:=⟨h.few,h.c0,h.c8,h.none,h.i0,h.i1,h.opn,h.thr⟩
 unfold takes
 split
 ·unfold zIV
  by_cases hf:4≤r.threads.length∨0<r.opn.length
  ·rw[if_pos (by exact hf)];exact h0
  ·rw[if_neg (by exact hf)]
   split
   ·rename_i a c _
    by_cases hd:(digit c 2).2=true
    ·rw[if_pos hd]
     have hb:=digit_ok c 2 hd
     refine⟨by simp;omega,by simp,by simp,by simp,h.i0,?_,h.opn,?_⟩
     ·have:=h.i1
      have hn:=h.none
      have h8:=h.c8
      cases ht:r.threads with
      | nil=>rw[ht] at this;rw[hn ht] at this;simp at this ⊢;omega
      | cons t q=>rw[ht] at this;simp at this ⊢;omega
     ·intro t ht
      simp at ht
      rcases ht with ht | rfl
      ·exact h.thr t ht
      ·exact⟨hb.1,by show (digit c 2).1<100;omega,by simp⟩
    ·rw[if_neg hd];exact h0
   ·exact h0
 ·split
  ·exact h0
  ·rename_i _ hne
   simp only[]
   split
   ·rename_i hs
    have hn:=nums_statement ws hs
    split
    ·unfold ends
     split
     ·exact h0
     ·rename_i l hl
      have hm:l∈r.opn:=List.mem_of_getLast? hl
      have hlb:=h.opn l hm
      refine tidy_put _ ⟨h.few,h.c0,h.c8,h.none,h.i0,h.i1,fun o ho=>h.opn o (List.dropLast_subset _ ho),h.thr⟩ ?_
      exact small_of hn _ _ hlb.1 hlb.2
    ·split
     ·exact h0
     ·rename_i h8
      have h8':r.count<8:=by simpa using h8
      have hne':r.threads≠[]:=by simpa using hne
      have h1:Tidy { r with line:=r.line+1,count:=r.count+1 }:=⟨h.few,by have:=h.c0;show 0≤r.count+1;omega,by show r.count+1≤8;omega,fun e=>absurd e hne',h.i0,by have:=h.i1;show r.ifs≤8*((r.threads.length-1:Nat):Int)+(r.count+1);omega,h.opn,h.thr⟩
      split
      ·split
       ·exact h1
       ·rename_i ho
        unfold branch
        rw[if_neg ho]
        have hi:=h.i1
        have hf:=h.few
        have hi0:=h.i0
        have hb:r.ifs+1<100:=by omega
        refine tidy_put _ ⟨h1.few,h1.c0,h1.c8,h1.none,by show 0≤r.ifs+1;omega,by show r.ifs+1≤8*((r.threads.length-1:Nat):Int)+(r.count+1);omega,?_,h1.thr⟩ (small_of hn _ _ (by show 0≤r.ifs+1;omega) hb)
        intro o ho'
        simp at ho'
        rcases ho' with ho' | rfl
        ·exact h.opn o ho'
        ·exact⟨by omega,hb⟩
      ·refine tidy_put _ h1 ?_
       have:=small_of hn (r.line+1) 0 (by omega) (by omega)
       have e:({ (zIr ws).1 with line:=r.line+1 }:Stm)={ (zIr ws).1 with line:=r.line+1,label:=0 }:=by
        have:=hn.l0
        rw[← this]
       rw[e];exact this
   ·exact h0
theorem tidy_run (xs:List (List UInt8)):∀ r:Rd,Tidy r→Tidy (zJP r xs).1:=by
 induction xs with
 | nil=>intro r h;exact h
 | cons x q ih =>
  intro r h
  simp only[zJP]
  split
  ·exact ih _ (tidy_takes _ h)
  ·exact tidy_takes _ h
theorem lines_small (l:List UInt8):∀ t∈(lines l).1,0≤t.block∧t.block<100∧∀ s∈t.stmts,Small s:=by
 have h:=tidy_run (zIp 10 l).dropLast Rd.zero tidy_zero
 unfold lines
 simp only[]
 split
 ·split
  ·intro t ht;simp at ht
  ·exact h.thr
 ·intro t ht;simp at ht
end P
end Go.Proofs.YtkmebkbpfmoeaaaGreat
namespace Go.Proofs.YtkmebkbpfmoeaaaGreat
open Go Go.RowKit
set_option maxRecDepth 100000
namespace P
end P
theorem zDU (s:ByteArray) (w:World) (hs:s.size≤8192) :
  Calls Tryz.prog 24 #[.string s] w fun e w'=>∃ tv,e=.returned (.tuple #[.agg #[tv],.int .i64 (P.kernel s.toList).2.1,.int .i64 (P.kernel s.toList).2.2])∧(∃ a m c,tv=.slice a m c) ∧
   ((P.kernel s.toList).2.1=0→∃ bt tc,tv=.slice (some ⟨bt,0,none⟩) (P.kernel s.toList).1.length tc∧zAw w' w.heap.size tv (P.kernel s.toList).1∧(P.kernel s.toList).1.length≤4∧(∀ t∈(P.kernel s.toList).1,t.stmts.length<3000)∧∀ t∈(P.kernel s.toList).1,0≤t.block∧t.block<100∧∀ x∈t.stmts,P.Small x)∧Below w.heap.size w w':=by
 unfold P.kernel
 rw[zAi]
 by_cases h1:2000<s.size
 ·rw[if_pos h1]
  refine (zEY s w hs h1).mono ?_
  rintro e w' ⟨rfl,hb⟩
  exact⟨_,rfl,⟨_,_,_,rfl⟩,fun h=>by simp at h,hb⟩
 rw[if_neg h1]
 cases h2:((P.lines s.toList).2 != 0)
 rotate_left
 ·refine (zEx s w hs (by omega) h2).mono ?_
  rintro e w' ⟨rfl,hb⟩
  exact⟨_,rfl,⟨_,_,_,rfl⟩,fun h=>by simp at h,hb⟩
 simp only[Bool.false_eq_true,if_false]
 cases h3:(P.zII (P.lines s.toList).1 != 0)
 rotate_left
 ·refine (zEy s w hs (by omega) h2 h3).mono ?_
  rintro e w' ⟨rfl,hb⟩
  exact⟨_,rfl,⟨_,_,_,rfl⟩,fun h=>by simp at h,hb⟩
 simp only[Bool.false_eq_true,if_false]
 cases h4:(P.zIt (P.lines s.toList).1 (P.lines s.toList).1 != 0)
 rotate_left
 ·refine (zEe s w hs (by omega) h2 h3 h4).mono ?_
  rintro e w' ⟨rfl,hb⟩
  exact⟨_,rfl,⟨_,_,_,rfl⟩,fun h=>by simp at h,hb⟩
 simp only[Bool.false_eq_true,if_false]
 cases h5:P.over (P.lines s.toList).1
 rotate_left
 ·refine (zEZ s w hs (by omega) h2 h3 h4 h5).mono ?_
  rintro e w' ⟨rfl,hb⟩
  exact⟨_,rfl,⟨_,_,_,rfl⟩,fun h=>by simp at h,hb⟩
 ·refine (zGx s w hs (by omega) h2 h3 h4 h5).mono ?_
  rintro e w' ⟨bt,tc,rfl,hth,hb⟩
  obtain⟨_,k2,k3⟩:=P.zJm s.toList (by simpa using h2)
  exact⟨_,rfl,⟨_,_,_,rfl⟩,fun _=>⟨bt,tc,rfl,hth,k2,fun t ht=>by have:=k3 t ht;rw[zAi] at this;omega,P.lines_small s.toList⟩,hb⟩
namespace P
structure OkT (n:Nat) (ts:List Thr):Prop where
 len:∀ t∈ts,t.stmts.length<n
 sm:∀ t∈ts,0≤t.block∧t.block<100∧∀ x∈t.stmts,Small x
theorem small_os {st:Stm} (h:Small st) (o s:Int):Small { st with order:=o,scope:=s }:=⟨h.d0,h.d1,h.a0,h.a1,h.b0,h.b1,h.l0,h.l1⟩
theorem small_fence (st:Stm):Small (fenceS st):=⟨by simp[fenceS],by simp[fenceS],by simp[fenceS,Opd.zero],by simp[fenceS,Opd.zero],by simp[fenceS,Opd.zero],by simp[fenceS,Opd.zero],by simp[fenceS],by simp[fenceS]⟩
theorem OkT.fence {n:Nat} {ts:List Thr} (h:OkT n ts):OkT (3*n) (fenced ts):=by
 refine⟨fun t ht=>?_,fun t ht=>?_⟩
 ·obtain⟨u,hu,rfl⟩:=List.mem_map.1 ht
  have h1:=h.len u hu
  have h2:=zFf (isPure ts) u.stmts
  simp only[fencedT];omega
 ·obtain⟨u,hu,rfl⟩:=List.mem_map.1 ht
  obtain⟨h1,h2,h3⟩:=h.sm u hu
  refine⟨h1,h2,?_⟩
  simp only[fencedT]
  generalize isPure ts=pr
  generalize u.stmts=l at h3
  induction l with
  | nil=>intro x hx;simp[zKf] at hx
  | cons s r ih =>
   intro x hx
   simp only[zKf,List.mem_append] at hx
   rcases hx with hx | hx
   ·have hs:=h3 s (by simp)
    unfold zKw at hx
    split at hx
    ·simp only[List.mem_append] at hx
     rcases hx with (hx | hx) | hx
     ·split at hx
      ·simp at hx;rw[hx];exact small_fence s
      ·simp at hx
     ·simp at hx;rw[hx];exact small_os hs 1 s.scope
     ·split at hx
      ·simp at hx;rw[hx];exact small_fence s
      ·simp at hx
    ·simp at hx;rw[hx];exact hs
   ·exact ih (fun y hy=>h3 y (by simp[hy])) x hx
end P
namespace P
end P
end Go.Proofs.YtkmebkbpfmoeaaaGreat
namespace Go.Proofs.YtkmebkbpfmoeaaaGreat
namespace P
end P
end Go.Proofs.YtkmebkbpfmoeaaaGreat
