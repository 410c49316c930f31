import Derived.Laws.IdiomCopy
import Derived.Deep.CutRange
import Derived.Test.YtkmebkbpfmoeaaaGreatH10
import Derived.Test.YtkmebkbpfmoeaaaGreatH09
set_option linter.unusedVariables false
set_option linter.unusedSimpArgs false
set_option maxHeartbeats 12800000
namespace Go.Proofs.YtkmebkbpfmoeaaaGreat
open Go Go.RowKit
set_option maxRecDepth 100000
structure TurnAt (w wr:World) (b3 gn n:Nat) (vr:Value) (l:List Nat):Prop where
 c1:wr.heap[w.heap.size]?=some (.cells #[vr] 64 (0,0))
 c2:wr.heap[w.heap.size+1]?=some (.cells #[.slice none 0 0] 64 (0,0))
 c3:wr.heap[b3]?=some (.cells #[.slice (some ⟨gn,0,none⟩) n n] 64 (0,0))
 st:zAo wr gn l
 bl:Below w.heap.size w wr
 gl:w.heap.size+2≤gn
 gb:gn<b3
theorem TurnAt.keep {w wr w':World} {b3 gn n:Nat} {vr:Value} {l:List Nat} (h:TurnAt w wr b3 gn n vr l) (hb:Below wr.heap.size wr w'):TurnAt w w' b3 gn n vr l:=by
 have lt:∀ {b:Nat} {o:Obj},wr.heap[b]?=some o→b<wr.heap.size:=fun h=>(Array.getElem?_eq_some_iff.1 h).1
 have bk:∀ {b:Nat} {o:Obj},wr.heap[b]?=some o→w'.heap[b]?=some o:=fun hb1=>by rw[hb.block _ (lt hb1)];exact hb1
 exact⟨bk h.c1,bk h.c2,bk h.c3,h.st.below hb,h.bl.trans (hb.mono h.bl.size),h.gl,h.gb⟩
theorem TurnAt.grown {w wr w':World} {b3 gn n:Nat} {vr:Value} {l l':List Nat} (h:TurnAt w wr b3 gn n vr l) (hg:wr.grownBy w' (some gn)) (hs:zAo w' gn l'):TurnAt w w' b3 gn n vr l':=by
 have lt:∀ {b:Nat} {o:Obj},wr.heap[b]?=some o→b<wr.heap.size:=fun h=>(Array.getElem?_eq_some_iff.1 h).1
 have h1:=h.gl
 have h2:=h.gb
 have bk:∀ {b:Nat} {o:Obj},wr.heap[b]?=some o→b≠gn→w'.heap[b]?=some o:=fun hb1 hne=>by rw[hg.block _ (lt hb1) (by simpa using hne)];exact hb1
 refine⟨bk h.c1 (by omega),bk h.c2 (by omega),bk h.c3 (by omega),hs,?_,h.gl,h.gb⟩
 exact h.bl.trans ⟨hg.os,hg.tape,hg.output,hg.size,fun i hi=>hg.block i (by have:=h.bl.size;omega) (by simp;omega)⟩
theorem TurnAt.start {w w1:World} {gn n:Nat} {vr:Value} {l:List Nat} (hsn:zAo w1 gn l) (hgn:w.heap.size+2≤gn) (hb1:Below (w.heap.size+2) ((w.alloc (.cells #[vr] 64)).alloc (.cells #[.slice none 0 0] 64)) w1) :
  TurnAt w (w1.alloc (.cells #[.slice (some ⟨gn,0,none⟩) n n] 64)) w1.heap.size gn n vr l:=by
 have hz:=hb1.size
 simp at hz
 have A:∀ b,b<w.heap.size+2→(w1.alloc (.cells #[.slice (some ⟨gn,0,none⟩) n n] 64)).heap[b]?=((w.alloc (.cells #[vr] 64)).alloc (.cells #[.slice none 0 0] 64)).heap[b]?:=fun b hb=>by
  rw[Below.heap_alloc _ _ _ (by omega),hb1.block b hb]
 refine⟨?_,?_,heap_alloc_new w1 _,hsn.alloc _,?_,hgn,hsn.lt⟩
 ·rw[A _ (by omega),Below.heap_alloc _ _ _ (by simp)];exact heap_alloc_new w _
 ·rw[A _ (by omega)]
  have:=heap_alloc_new (w.alloc (.cells #[vr] 64)) (.cells #[.slice none 0 0] 64);simpa using this
 ·exact ((((Below.refl w.heap.size w).alloc (Nat.le_refl _) _).alloc (by simp) _).trans (hb1.mono (by omega))).alloc (by omega) _
theorem TurnAt.out {w wr:World} {b3 gn n:Nat} {vr:Value} {l:List Nat} (h:TurnAt w wr b3 gn n vr l) (hn:l.length=n) (hf:Q.Fits l):zCt w (wr.setCell ⟨w.heap.size+1,0,none⟩ (.slice (some ⟨gn,0,none⟩) n n)) n l (.returned (.agg #[.slice (some ⟨gn,0,none⟩) n n]))∧(wr.setCell ⟨w.heap.size+1,0,none⟩ (.slice (some ⟨gn,0,none⟩) n n)).heap[w.heap.size+1]?=some (.cells #[.slice (some ⟨gn,0,none⟩) n n] 64 (0,0)):=by
 have hg:=h.gl
 refine⟨⟨gn,rfl,h.st.of_block (Below.heap_setCell _ _ _ _ (by simp;omega)),by omega,hn,hf,h.bl.setCell (p:=⟨w.heap.size+1,0,none⟩) (by simp) _⟩,?_⟩
 rw[zAf h.c2];rfl
theorem TurnAt.rel {w wr:World} {b3 gn n:Nat} {vr:Value} {l:List Nat} (h:TurnAt w wr b3 gn n vr l) (hn:l.length=n):zDd wr b3 0 gn n l:=by
 obtain⟨z0,_,z2⟩:=zAm h.c3
 exact⟨z0,h.st,hn,z2,by have:=h.gb;omega⟩
theorem zFV (gr n:Nat) (r:List Nat) (w:World) (hr:zAo w gr r) (hn:r.length=n) (hf:Q.Fits r) :
  Calls Tryz.prog 110 #[.agg #[.slice (some ⟨gr,0,none⟩) n n]] w fun e w'=>zCt w w' n (Q.zJG r) e:=by
 have hn64:n≤64:=by have:=hf.len;omega
 have HR:=zAa hr
 have HN:=zAa hn
 have hgr:=hr.lt
 have HFR:=zAa hf
 have HTE:Hid (Q.zJG r=(List.range n).foldl (Q.turnA r) (Q.newR n)):=by unfold Hid Q.zJG;rw[hn]
 have HTO:=zAa (Q.turned_ok (r:=r) hf.len)
 clear hr hn hf
 go_enter Tryz.func110,Tryz.ntmps110
 go_wp2_with (first | (go_at_call 72;refine (zBn n _ hn64).mono ?_;rintro e w1 ⟨gn,rfl,hsn,hgn,hln,hfn,hb1⟩;have hz1:=hb1.size;have HS:=zAa (TurnAt.start (n:=n) hsn (by simpa using hgn) (by simpa using hb1));simp at hz1;clear hsn hb1;obtain⟨x1,y1,l1⟩:=zAm HS.out.c1;have hlt1:=HS.out.gb))
 go_loopw [13] (fun i wr=>∃ k:Nat,∃ t:List Nat,k≤n∧i=.int .i64 k∧Hid (t=(List.range k).foldl (Q.turnA r) (Q.newR n))∧Hid (Q.Fits t∧t.length=n)∧Hid (TurnAt w wr w1.heap.size gn n (.slice (some ⟨gr,0,none⟩) n n) t)) (fun i _=>n-(intOf i).toNat)
 case atStart=>exact⟨0,_,Nat.zero_le _,rfl,rfl,⟨hfn,hln⟩,HS⟩
 case round =>
  clear x1 y1 l1
  obtain⟨k,t,hk,rfl,HT,HO,HI⟩:=hrel
  obtain⟨x1,y1,l1⟩:=zAm HI.out.c1
  obtain⟨x2,y2,l2⟩:=zAm HI.out.c2
  by_cases hlt:k<n
  ·have hin:(k:Int)<(n:Int):=by omega
   go_wp2
   go_loopw [19] (fun j wq=>∃ q:Nat,∃ u:List Nat,q≤n∧j=.int .i64 q∧Hid (u=(List.range q).foldl (Q.turnB r k) t)∧Hid (Q.Fits u∧u.length=n)∧Hid (TurnAt w wq w1.heap.size gn n (.slice (some ⟨gr,0,none⟩) n n) u)) (fun j _=>n-(intOf j).toNat)
   case atStart=>exact⟨0,t,Nat.zero_le _,rfl,rfl,HO,HI⟩
   case round =>
    clear x1 y1 l1 x2 y2 l2
    obtain⟨q,u,hq,rfl,HU,HV,HJ⟩:=hrel
    obtain⟨x1,y1,l1⟩:=zAm HJ.out.c1
    by_cases hql:q<n
    ·have hqi:(q:Int)<(n:Int):=by omega
     have HSR:Hid (zAo wr gr r):=HR.out.of_block (HJ.out.bl.block gr hgr)
     have HFS:Hid ((List.range (q+1)).foldl (Q.turnB r k) t=Q.turnB r k u q):=by unfold Hid;rw[Q.zIm,HU.out]
     cases hh:Q.hasR r (k:Int) (q:Int)
     ·have HB:Hid (u=(List.range (q+1)).foldl (Q.turnB r k) t):=by unfold Hid;rw[HFS.out];unfold Q.turnB;rw[hh];rfl
      go_wp2_with (first | (refine zAw (.tmp 1) rfl rfl w.heap.size _ rfl HJ.out.c1 ?_) | (go_at_call 75;refine (zBF gr n r _ _ _ HSR.out HN.out.symm HFR.out).mono ?_;rintro e wb ⟨rfl,hbb⟩;rw[hh]))
      go_roundw
      case rel=>exact⟨q+1,u,by omega,by go_num,HB,HV,HJ.out.keep hbb⟩
      case measure=>simp[intOf];omega
     ·have HB:Hid (Q.addR u (q:Int) (k:Int)=(List.range (q+1)).foldl (Q.turnB r k) t):=by unfold Hid;rw[HFS.out];unfold Q.turnB;rw[hh];rfl
      go_wp2_with (first | (refine zAw (.tmp 1) rfl rfl w.heap.size _ rfl HJ.out.c1 ?_) | (go_at_call 75;refine (zBF gr n r _ _ _ HSR.out HN.out.symm HFR.out).mono ?_;rintro e wb ⟨rfl,hbb⟩;rw[hh];have HJ2:=zAa (HJ.out.keep hbb)) | (go_at_call 73;refine (zBw w1.heap.size 0 gn n u (q:Int) (k:Int) _ (HJ2.out.rel HV.out.2) HV.out.1).mono ?_;rintro e wc ⟨rfl,hsc,hgc⟩;have HJ3:=zAa (HJ2.out.grown hgc hsc)))
      go_roundw
      case rel=>exact⟨q+1,_,by omega,by go_num,HB,⟨Q.zID HV.out.1 _ _,by rw[Q.zIL];exact HV.out.2⟩,HJ3⟩
      case measure=>simp[intOf];omega
    ·have hqn:q=n:=by omega
     have HT2:Hid (u=(List.range (k+1)).foldl (Q.turnA r) (Q.newR n)):=by
      unfold Hid;rw[Q.zIm,← HT.out,HU.out,hqn];unfold Q.turnA;rw[HN.out]
     go_wp2
     go_roundw
     case rel=>exact⟨k+1,u,by omega,by go_num,HT2,HV,HJ⟩
     case measure=>simp[intOf];omega
  ·have hkn:k=n:=by omega
   have HE:Hid (t=Q.zJG r):=by unfold Hid;rw[HTE.out,HT.out,hkn]
   rw[HE.out] at HI
   obtain⟨q1,q2⟩:=HI.out.out (by rw[HTO.out.2,HN.out]) HTO.out.1
   have Q1:=zAa q1
   have Q2:=zAa q2
   clear q1 q2
   go_wp2_with (first | (refine zAw (.tmp 3) rfl rfl w1.heap.size _ rfl HI.out.c3 ?_) | (refine zAU (.tmp 2) (.tmp 31) rfl rfl (w.heap.size+1) _ _ rfl rfl HI.out.c2 rfl ?_))
   refine zBv (p:=2) (w.heap.size+1) _ (by kernel_rfl) rfl Q2.out rfl Q1.out
theorem zDL (gr n:Nat) (r:List Nat) (w:World) (hr:zAo w gr r) (hn:r.length=n) (hf:Q.Fits r) :
  Calls Tryz.prog 54 #[.agg #[.slice (some ⟨gr,0,none⟩) n n]] w fun e w'=>zCt w w' n (Q.zJj r) e:=by
 have hn64:n≤64:=by have:=hf.len;omega
 have hgr:=hr.lt
 have HR:Hid (zAo ((w.alloc (.cells #[.slice (some ⟨gr,0,none⟩) n n] 64)).alloc (.cells #[.slice none 0 0] 64)) gr r):=(hr.alloc _).alloc _
 have HN:=zAa hn
 have HFR:=zAa hf
 have HTE:Hid (Q.zJj r=(List.range n).foldl (Q.zKv n) (Q.orR r r)):=by unfold Hid Q.zJj;rw[hn]
 have HTO:=zAa (Q.closed_ok hf)
 clear hr hn hf
 go_enter Tryz.func54,Tryz.ntmps54
 go_wp2_with (first | (go_at_call 53;refine (zHs gr gr n r r _ HR.out HR.out HN.out HN.out HFR.out HFR.out).mono ?_;rintro e w1 ⟨gn,rfl,hsn,hgn,hln,hfn,hb1⟩;have hz1:=hb1.size;have HS:=zAa (TurnAt.start (n:=n) hsn (by simpa using hgn) (by simpa using hb1));simp at hz1;clear hsn hb1;obtain⟨x3,y3,l3⟩:=zAm HS.out.c3;have hlt1:=HS.out.gb))
 go_loopw [12] (fun i wr=>∃ k:Nat,∃ t:List Nat,k≤n∧i=.int .i64 k∧Hid (t=(List.range k).foldl (Q.zKv n) (Q.orR r r))∧Hid (Q.Fits t∧t.length=n)∧Hid (TurnAt w wr w1.heap.size gn n (.slice (some ⟨gr,0,none⟩) n n) t)) (fun i _=>n-(intOf i).toNat)
 case atStart=>exact⟨0,_,Nat.zero_le _,rfl,rfl,⟨hfn,hln⟩,HS⟩
 case round =>
  clear x3 y3 l3
  obtain⟨k,t,hk,rfl,HT,HO,HI⟩:=hrel
  obtain⟨x3,y3,l3⟩:=zAm HI.out.c3
  obtain⟨x2,y2,l2⟩:=zAm HI.out.c2
  by_cases hlt:k<n
  ·have hin:(k:Int)<(n:Int):=by omega
   go_wp2
   go_loopw [18] (fun j wq=>∃ q:Nat,∃ u:List Nat,q≤n∧j=.int .i64 q∧Hid (u=(List.range q).foldl (Q.zJH k) t)∧Hid (Q.Fits u∧u.length=n)∧Hid (TurnAt w wq w1.heap.size gn n (.slice (some ⟨gr,0,none⟩) n n) u)) (fun j _=>n-(intOf j).toNat)
   case atStart=>exact⟨0,t,Nat.zero_le _,rfl,rfl,HO,HI⟩
   case round =>
    clear x3 y3 l3 x2 y2 l2
    obtain⟨q,u,hq,rfl,HU,HV,HJ⟩:=hrel
    obtain⟨x3,y3,l3⟩:=zAm HJ.out.c3
    have hgl:=HJ.out.gl
    have hgb:=HJ.out.gb
    by_cases hql:q<n
    ·have hqi:(q:Int)<(n:Int):=by omega
     have HFS:Hid ((List.range (q+1)).foldl (Q.zJH k) t=Q.zJH k u q):=by unfold Hid;rw[Q.zIm,HU.out]
     have hku:k<u.length:=by rw[HV.out.2];exact hlt
     have hqu:q<u.length:=by rw[HV.out.2];exact hql
     cases hh:Q.hasR u (q:Int) (k:Int)
     ·have HB:Hid (u=(List.range (q+1)).foldl (Q.zJH k) t):=by unfold Hid;rw[HFS.out];unfold Q.zJH;rw[hh];rfl
      go_wp2_with (first | (refine zAw (.tmp 3) rfl rfl w1.heap.size _ rfl HJ.out.c3 ?_) | (go_at_call 75;refine (zBF gn n u _ _ _ HJ.out.st HV.out.2.symm HV.out.1).mono ?_;rintro e wb ⟨rfl,hbb⟩;rw[hh]))
      go_roundw
      case rel=>exact⟨q+1,u,by omega,by go_num,HB,HV,HJ.out.keep hbb⟩
      case measure=>simp[intOf];omega
     ·have HB:Hid (u.set q (Q.ofR u (q:Int) ||| Q.ofR u (k:Int))=(List.range (q+1)).foldl (Q.zJH k) t):=by unfold Hid;rw[HFS.out];unfold Q.zJH;rw[hh];rfl
      have hbit:=bits_or_u64_nat (Q.ofR u (q:Int)) (Q.ofR u (k:Int)) (Q.zIW HV.out.1 _) (Q.zIW HV.out.1 _)
      have FIN:Hid (∀ W:World,Below wr.heap.size wr W→TurnAt w (W.setCell ⟨gn,q,none⟩ (.int .u64 ((Q.ofR u (q:Int) ||| Q.ofR u (k:Int):Nat)))) w1.heap.size gn n (.slice (some ⟨gr,0,none⟩) n n) (u.set q (Q.ofR u (q:Int) ||| Q.ofR u (k:Int)))):=fun W hb =>
       (HJ.out.keep hb).grown (zAj (zAA _ _) _ _) ((HJ.out.st.below hb).set q _)
      go_wp2_with (first | (refine zAw (.tmp 3) rfl rfl w1.heap.size _ rfl HJ.out.c3 ?_) | (go_at_call 75;refine (zBF gn n u _ _ _ HJ.out.st HV.out.2.symm HV.out.1).mono ?_;rintro e wb ⟨rfl,hbb⟩;rw[hh];have HJ2:=zAa (HJ.out.keep hbb);have x3b:=cfL hbb l3 x3;have cq:=HJ2.out.st.cellOf q hqu;have ck:=HJ2.out.st.cellOf k hku;have fq:=HJ2.out.st.free q;have hgw:=HJ2.out.st.lt))
      go_region
      all_goals
       go_wp2
       go_roundw
       case rel=>exact⟨q+1,_,by omega,by go_num,HB,⟨Q.fits_set HV.out.1 _ _ (Q.or_lt (Q.zIW HV.out.1 _) (Q.zIW HV.out.1 _)),by rw[List.length_set];exact HV.out.2⟩,by first | exact FIN.out _ hbb.drew | exact FIN.out _ hbb⟩
       case measure=>simp[intOf];omega
    ·have hqn:q=n:=by omega
     have HT2:Hid (u=(List.range (k+1)).foldl (Q.zKv n) (Q.orR r r)):=by
      unfold Hid;rw[Q.zIm,← HT.out,HU.out,hqn];rfl
     go_wp2
     go_roundw
     case rel=>exact⟨k+1,u,by omega,by go_num,HT2,HV,HJ⟩
     case measure=>simp[intOf];omega
  ·have hkn:k=n:=by omega
   have HE:Hid (t=Q.zJj r):=by unfold Hid;rw[HTE.out,HT.out,hkn]
   rw[HE.out] at HI
   obtain⟨q1,q2⟩:=HI.out.out (by rw[HTO.out.2,HN.out]) HTO.out.1
   have Q1:=zAa q1
   have Q2:=zAa q2
   clear q1 q2
   go_wp2_with (first | (refine zAw (.tmp 3) rfl rfl w1.heap.size _ rfl HI.out.c3 ?_) | (refine zAU (.tmp 2) (.tmp 39) rfl rfl (w.heap.size+1) _ _ rfl rfl HI.out.c2 rfl ?_))
   refine zBv (p:=2) (w.heap.size+1) _ (by kernel_rfl) rfl Q2.out rfl Q1.out
theorem zEV (gr n:Nat) (r:List Nat) (w:World) (hr:zAo w gr r) (hn:r.length=n) (hf:Q.Fits r) :
  Calls Tryz.prog 74 #[.agg #[.slice (some ⟨gr,0,none⟩) n n]] w fun e w'=>e=.returned (.bool (Q.zJY r))∧Below w.heap.size w w':=by
 have hgr:=hr.lt
 have HR:=zAa (hr.alloc (.cells #[.slice (some ⟨gr,0,none⟩) n n] 64))
 have HN:=zAa hn
 have HFR:=zAa hf
 clear hr hn hf
 go_enter Tryz.func74,Tryz.ntmps74
 go_wp2_with (first | (go_at_call 54;refine (zDL gr n r _ HR.out HN.out HFR.out).mono ?_;rintro e w1 ⟨gn,rfl,hsn,hgn,hln,hfn,hb1⟩) | (go_at_call 82;refine (zEu gn n _ _ hsn hln hfn).mono ?_;rintro e w2 ⟨rfl,hb2⟩))
 go_ret
 exact⟨rfl,((Below.refl w.heap.size w).alloc (Nat.le_refl _) _).trans ((hb1.mono (by simp)).trans (hb2.mono (by have:=hb1.size;simp at this;omega)))⟩
def zHZ (l:List Value) (o:Nat):List Value→List Value
 | []=>l
 | v::vs=>zHZ (l.set o v) (o+1) vs
theorem zBs (b:Nat) (e:TypeId) (fr:Nat × Nat):∀ (vs l:List Value) (o:Nat) (w:World),w.heap[b]?=some (.cells l.toArray e fr)→(w.setCells b o vs).heap[b]?=some (.cells (zHZ l o vs).toArray e fr)
 | [],l,o,w,h=>h
 | v::vs,l,o,w,h=>by
  have h1:=zAf h o v
  rw[World.setCells]
  exact zBs b e fr vs (l.set o v) (o+1) _ (by rw[h1];simp)
theorem zEa:∀ (vs pre rest:List Value),rest.length=vs.length→zHZ (pre++rest) pre.length vs=pre++vs
 | [],pre,rest,h=>by have:rest=[]:=List.eq_nil_of_length_eq_zero h;rw[this];rfl
 | v::vs,pre,[],h=>by simp at h
 | v::vs,pre,r::rest,h=>by
  have e:(pre++r::rest).set pre.length v=(pre++[v])++rest:=by rw[List.set_append_right _ _ (Nat.le_refl _),Nat.sub_self];simp
  have:=zEa vs (pre++[v]) rest (by simpa using h)
  rw[zHZ,e,show pre.length+1=(pre++[v]).length by simp,this];simp
theorem zBq (b:Nat):∀ (vs:List Value) (o:Nat) (w:World) (k:Nat),k≠b→(w.setCells b o vs).heap[k]?=w.heap[k]?
 | [],_,_,_,_=>rfl
 | v::vs,o,w,k,h=>by rw[World.setCells,zBq b vs (o+1) _ k h,Below.heap_setCell _ _ _ _ h]
theorem zBX (n:Nat):madeCells #[.int .i64 0] n=zAK (List.replicate n 0):=by
 apply Array.ext_getElem?
 intro i
 by_cases h:i<n
 ·simp[madeCells,zAK,h,Nat.mod_one]
 ·rw[Array.getElem?_eq_none (by simpa [madeCells] using h),Array.getElem?_eq_none (by simpa [zAK] using h)]
theorem zAS (b:Nat):∀ (vs:List Value) (o:Nat) (w:World),(w.setCells b o vs).heap.size=w.heap.size
 | [],_,_=>rfl
 | v::vs,o,w=>by rw[World.setCells,zAS b vs (o+1)];simp
theorem Below.setCells {B b:Nat} {a:World} (hB:B≤b):∀ (vs:List Value) (o:Nat) (w:World),Below B a w→Below B a (w.setCells b o vs)
 | [],_,_,h=>h
 | v::vs,o,w,h=>by rw[World.setCells];exact Below.setCells hB vs (o+1) _ (h.setCell hB v)
def zBA (w:World) (v:Value) (l:List Int):Prop:=(v=.slice none 0 0∧l=[])∨∃ g cap,v=.slice (some ⟨g,0,none⟩) l.length cap∧(∀ i (h:i<l.length),w.cell? ⟨g,i,none⟩=some (.int .i64 l[i]))∧g<w.heap.size∧l.length≤cap
theorem zCp (v:Value) (l:List Int) (w:World) (h:zBA w v l) (hn:l.length<10000) :
  Calls Tryz.prog 88 #[v] w fun e w'=>∃ g,e=.returned (.slice (some ⟨g,0,none⟩) l.length l.length)∧zAp w' g l∧w.heap.size≤g∧Below w.heap.size w w':=by
 have hmk:∀ w,(Instr.makeSlice 31 (.int .i64 (l.length:Int)) (.int .i64 (l.length:Int))).run Tryz.prog w=.ok (.slice (some ⟨w.heap.size,0,none⟩) l.length l.length) (w.alloc (.cells (madeCells #[.int .i64 0] l.length) 3)) :=
  fun w=>run_make_row' 31 3 (.int .i64 0) 8 Tryz.underlying31 Tryz.infoInt rfl .i64 .i64 l.length (by omega) (by omega) w
 have hnew:(w.alloc (.cells (madeCells #[.int .i64 0] l.length) 3)).heap[w.heap.size]?=some (.cells (zAK (List.replicate l.length 0)) 3 (0,0)):=by rw[zBX];exact heap_alloc_new w _
 have hz1:(Tryz.prog.info? 3).map (·.size)=some 1:=by kernel_rfl
 rcases h with ⟨rfl,rfl⟩ | ⟨g,cap,rfl,hc,hg,_⟩
 ·have HN:=zAa hnew
  have hmk0:∀ w,(Instr.makeSlice 31 (.int .i64 0) (.int .i64 0)).run Tryz.prog w=.ok (.slice (some ⟨w.heap.size,0,none⟩) 0 0) (w.alloc (.cells (madeCells #[.int .i64 0] 0) 3)):=hmk
  have hcp:∀ W:World,(Builtin.copy_ #[31,31] 3 #[.slice (some ⟨w.heap.size,0,none⟩) 0 0,.slice none 0 0]).run Tryz.prog W=.ok (goInt 0) W:=fun W=>run_copy_none W _ _ _ 3 _ _ 0 0 0 0 Tryz.underlying31 hz1 rfl
  clear hnew hmk
  go_enter Tryz.func88,Tryz.ntmps88
  go_wp2
  go_ret
  refine⟨w.heap.size,rfl,?_,Nat.le_refl _,(Below.refl _ _).alloc (Nat.le_refl _) _⟩
  exact HN.out
 ·have hW:∀ j (hj:j<l.length),(w.alloc (.cells (madeCells #[.int .i64 0] l.length) 3)).cell? ⟨g,j,none⟩=some (.int .i64 l[j]):=fun j hj=>by
   rw[← hc j hj];simp only[World.cell?,Below.heap_alloc _ _ _ hg]
  have hcp:(Builtin.copy_ #[31,31] 3 #[.slice (some ⟨w.heap.size,0,none⟩) l.length l.length,.slice (some ⟨g,0,none⟩) l.length cap]).run Tryz.prog (w.alloc (.cells (madeCells #[.int .i64 0] l.length) 3))=.ok (goInt (l.map (Value.int .i64)).length) ((w.alloc (.cells (madeCells #[.int .i64 0] l.length) 3)).setCells w.heap.size 0 (l.map (Value.int .i64))):=by
   refine run_copy_cells _ _ _ _ 3 _ _ _ _ _ _ _ _ Tryz.underlying31 hz1 (by simp) ?_ ?_ ?_ ?_
   ·intro j v hv
    rw[List.getElem?_map] at hv
    obtain⟨x,hx,rfl⟩:=Option.map_eq_some_iff.1 hv
    obtain⟨hj,rfl⟩:=List.getElem?_eq_some_iff.1 hx
    have ea:(⟨g,0,none⟩:Addr).add j=⟨g,j,none⟩:=by unfold Addr.add;split<;>simp_all
    rw[ea];exact hW j hj
   ·intro j hj
    simp only[World.cell?,hnew]
    simp at hj
    simp[zAK,hj]
   ·intro j hj
    have hI:zAp (w.alloc (.cells (madeCells #[.int .i64 0] l.length) 3)) w.heap.size (List.replicate l.length 0):=hnew
    exact hI.free _
   ·intro v hv
    simp at hv
    obtain⟨x,_,rfl⟩:=hv
    rfl
  have HF:Hid (zAp ((w.alloc (.cells (madeCells #[.int .i64 0] l.length) 3)).setCells w.heap.size 0 (l.map (Value.int .i64))) w.heap.size l):=by
   unfold Hid zAp
   have:=zBs w.heap.size 3 (0,0) (l.map (Value.int .i64)) ((List.replicate l.length 0).map (Value.int .i64)) 0 _ hnew
   rw[this]
   have e:=zEa (l.map (Value.int .i64)) [] ((List.replicate l.length 0).map (Value.int .i64)) (by simp)
   simp only[List.nil_append,List.length_nil] at e
   rw[e];rfl
  have HB:Hid (Below w.heap.size w ((w.alloc (.cells (madeCells #[.int .i64 0] l.length) 3)).setCells w.heap.size 0 (l.map (Value.int .i64)))):=Below.setCells (Nat.le_refl _) _ _ _ ((Below.refl _ _).alloc (Nat.le_refl _) _)
  clear hnew hW hc
  go_enter Tryz.func88,Tryz.ntmps88
  go_wp2
  go_ret
  exact⟨w.heap.size,rfl,HF.out,Nat.le_refl _,HB.out⟩
def zAL (l:List Q.Ev):List Value:=l.flatMap fun e=>(zAb e).toList
theorem zAJ (l:List Q.Ev):(zAL l).length=l.length*10:=by
 induction l with
 | nil=>rfl
 | cons a r ih=>simp[zAL,zAb] at *;omega
theorem zCB (a b:List Q.Ev):zAL (a++b)=zAL a++zAL b:=by simp[zAL]
theorem zDM (e:Q.Ev):zAL [e]=(zAb e).toList:=by simp[zAL]
theorem zDN (l:List Q.Ev):∀ (k:Nat) (h:k<l.length) (i:Nat),i<10→(zAL l)[k*10+i]?=(zAb l[k]).toList[i]?:=by
 induction l with
 | nil=>intro k h;simp at h
 | cons a r ih =>
  intro k h i hi
  have e:zAL (a::r)=(zAb a).toList++zAL r:=by simp[zAL]
  have hl:(zAb a).toList.length=10:=rfl
  rw[e]
  cases k with
  | zero =>
   rw[List.getElem?_append_left (by omega)];simp
  | succ k =>
   rw[List.getElem?_append_right (by omega),hl,show (k+1)*10+i-10=k*10+i by omega,ih k (by simpa using h) i hi]
   simp
theorem zDq (l:List Q.Ev):∀ u∈zAL l,u.oneCell'=true:=by
 intro u hu
 simp only[zAL,List.mem_flatMap,zAb] at hu
 obtain⟨e,_,he⟩:=hu
 simp at he
 rcases he with rfl | rfl | rfl | rfl | rfl | rfl | rfl | rfl | rfl | rfl<;>rfl
def zAW (w:World) (v:Value) (es:List Q.Ev):Prop:=w.ownsRow 0 129 10 v es.length (zAL es)
theorem zAW.keep {w w':World} {v:Value} {es:List Q.Ev} (h:zAW w v es) (hk:∀ k,k<w.heap.size→w'.heap[k]?=w.heap[k]?):zAW w' v es:=zAc h (fun k e=>hk k (h.lt k e).2)
theorem zAW.below {w w':World} {v:Value} {es:List Q.Ev} (h:zAW w v es) (hb:Below w.heap.size w w'):zAW w' v es:=h.keep fun k hk=>hb.block k hk
theorem zAW.form {w:World} {v:Value} {es:List Q.Ev} (h:zAW w v es):∃ a c,v=.slice a es.length c∧(0<es.length→∃ b,a=some ⟨b,0,none⟩∧b<w.heap.size):=by
 rcases h.2 with ⟨e,h0⟩ | ⟨k,c,cur,e,_⟩
 ·exact⟨none,0,by rw[e,h0],fun h=>by omega⟩
 ·exact⟨_,c,e,fun _=>⟨k,rfl,(h.lt k (by rw[e];rfl)).2⟩⟩
theorem zAW.range {w:World} {b n c:Nat} {es:List Q.Ev} (h:zAW w (.slice (some ⟨b,0,none⟩) n c) es) (hn:n=es.length) (k:Nat) (hk:k<es.length):w.rangeAt b (k*10) (zAb es[k]).toList:=by
 intro j v hv
 have hj:j<10:=(List.getElem?_eq_some_iff.1 hv).1
 unfold zAW at h
 rw[hn] at h
 rw[h.cellAt _ (by omega),zDN es k hk j hj];exact hv
theorem zDO (es:List Q.Ev) (k:Nat) (h:k<es.length):Q.ev es k=es[k]:=by simp[Q.ev,h]
theorem zAW.range' {w:World} {b n c:Nat} {es:List Q.Ev} (h:zAW w (.slice (some ⟨b,0,none⟩) n c) es) (hn:n=es.length) (k:Nat) (hk:k<es.length):w.rangeAt b (k*10) (zAb (Q.ev es k)).toList:=by
 rw[zDO es k hk];exact h.range hn k hk
theorem zAg {ops:Array Oper} {rest:List Oper} {op:Oper} {a:Act} {w:World} {R:Exit→Act→World→Prop} (x:Operand) (hgd:op.guard=none) (ho:op.op=.load 129 x)
  (b o:Nat) (e:Q.Ev) (hx:a.eval x=.pointer (some ⟨b,o,none⟩)) (hr:w.rangeAt b o (zAb e).toList)
  (h:wpList Tryz.prog ops R rest (a.put op.dst (.agg #[.int .i64 e.kind,.int .i64 e.thread,.int .i64 e.block,.int .i64 e.var,.int .i64 e.value,.int .i64 e.order,.int .i64 e.scope,.int .i64 e.bars,.bool e.step,.int .u64 (e.hangs:Nat)])) w):wpList Tryz.prog ops R (op::rest) a w :=
 wpList_load_mid hgd _ x ho b o hx (zAb e).toList _ hr Tryz.underlying129 rfl (by kernel_rfl) h
structure RelAt (w:World) (g n:Nat) (l:List Nat):Prop where
 at_:zAo w g l
 len:l.length=n
 fits:Q.Fits l
theorem RelAt.lt {w:World} {g n:Nat} {l:List Nat} (h:RelAt w g n l):g<w.heap.size:=h.at_.lt
theorem RelAt.below {w w':World} {g n:Nat} {l:List Nat} (h:RelAt w g n l) (hb:Below w.heap.size w w'):RelAt w' g n l:=⟨h.at_.below hb,h.len,h.fits⟩
theorem RelAt.keep {w w':World} {g n:Nat} {l:List Nat} (h:RelAt w g n l) (hk:∀ k,k<w.heap.size→w'.heap[k]?=w.heap[k]?):RelAt w' g n l:=⟨h.at_.of_block (hk g h.lt),h.len,h.fits⟩
structure FA where
 n:Nat
 ev:Value
 g1:Nat
 g2:Nat
 g3:Nat
 g4:Nat
 g5:Nat
 g6:Nat
 g7:Nat
 g8:Nat
 g9:Nat
def zAl (a:FA):Array Value:=#[a.ev,.slice (some ⟨a.g1,0,none⟩) a.n a.n,.slice (some ⟨a.g2,0,none⟩) a.n a.n,.slice (some ⟨a.g3,0,none⟩) a.n a.n,.slice (some ⟨a.g4,0,none⟩) a.n a.n,.slice (some ⟨a.g5,0,none⟩) a.n a.n,.slice (some ⟨a.g6,0,none⟩) a.n a.n,.slice (some ⟨a.g7,0,none⟩) a.n a.n,.slice (some ⟨a.g8,0,none⟩) a.n a.n,.slice (some ⟨a.g9,0,none⟩) a.n a.n]
structure FactsIn (w:World) (a:FA) (f:Q.Facts):Prop where
 ev:zAW w a.ev f.events
 len:f.events.length=a.n
 n64:a.n≤64
 r1:RelAt w a.g1 a.n f.ahead
 r2:RelAt w a.g2 a.n f.strong
 r3:RelAt w a.g3 a.n f.gathers
 r4:RelAt w a.g4 a.n f.fences
 r5:RelAt w a.g5 a.n f.rows
 r6:RelAt w a.g6 a.n f.hangs
 r7:RelAt w a.g7 a.n f.halves
 r8:RelAt w a.g8 a.n f.sends
 r9:RelAt w a.g9 a.n f.takes
theorem FactsIn.keep {w w':World} {a:FA} {f:Q.Facts} (h:FactsIn w a f) (hk:∀ k,k<w.heap.size→w'.heap[k]?=w.heap[k]?):FactsIn w' a f :=
 ⟨h.ev.keep hk,h.len,h.n64,h.r1.keep hk,h.r2.keep hk,h.r3.keep hk,h.r4.keep hk,h.r5.keep hk,h.r6.keep hk,h.r7.keep hk,h.r8.keep hk,h.r9.keep hk⟩
theorem FactsIn.below {w w':World} {a:FA} {f:Q.Facts} (h:FactsIn w a f) (hb:Below w.heap.size w w'):FactsIn w' a f:=h.keep fun k hk=>hb.block k hk
theorem FactsIn.form {w:World} {a:FA} {f:Q.Facts} (h:FactsIn w a f):∃ x c,a.ev=.slice x a.n c∧(0<a.n→∃ b,x=some ⟨b,0,none⟩∧b<w.heap.size):=by
 have:=h.ev.form
 rw[h.len] at this;exact this
theorem zEb {P:Program} (w:World) (dT sT ty elem:TypeId) (b o dLen dCap:Nat) (a:Addr) (sLen sCap sz:Nat) (cs:List Value)
  (hu:P.underlying dT=some (.slice elem)) (hs:(P.info? elem).map (·.size)=some sz) (hn:cs.length=Nat.min sLen dLen*sz)
  (hsrc:∀ j v,cs[j]?=some v→w.cell? (a.add j)=some v) (hc:∀ j,j<cs.length→(w.cell? ⟨b,o+j,none⟩).isSome=true) (hf:∀ j,j<cs.length→w.frozen? ⟨b,o+j,none⟩=false) (h1:∀ v∈cs,v.oneCell'=true) :
  (Builtin.copy_ #[dT,sT] ty #[.slice (some ⟨b,o,none⟩) dLen dCap,.slice (some a) sLen sCap]).run P w=.ok (goInt (Nat.min sLen dLen)) (w.setCells b o cs):=by
 have hl:=run_loadCells_list (P:=P) w a cs hsrc
 have hst:=run_storeCells_cells (P:=P) b o cs 0 w (by simpa using hc) (by simpa using hf) h1
 cases hq:P.info? elem with
 | none=>simp[hq] at hs
 | some i =>
  have hi:i.size=sz:=by simpa [hq] using hs
  simp[Builtin.copy_,run_underlying hu,Builtin.lenOf,Builtin.firstCells,sizeOf,typeInfo,hq,hi,← hn,hl,hst]
def zFv (w w':World) (n:Nat) (l:List Nat) (e:Ending):Prop:=∃ g,e=.returned (.agg #[.slice (some ⟨g,0,none⟩) n n])∧RelAt w' g n l∧Below w.heap.size w w'
theorem zCt.relR {w w':World} {n:Nat} {l:List Nat} {e:Ending} (h:zCt w w' n l e):zFv w w' n l e:=by
 obtain⟨g,rfl,h1,_,h3,h4,h5⟩:=h
 exact⟨g,rfl,⟨h1,h3,h4⟩,h5⟩
theorem zCu (gr go n:Nat) (r o:List Nat) (w:World) (hr:RelAt w gr n r) (ho:RelAt w go n o) :
  Calls Tryz.prog 53 #[.agg #[.slice (some ⟨gr,0,none⟩) n n],.agg #[.slice (some ⟨go,0,none⟩) n n]] w fun e w'=>zFv w w' n (Q.orR r o) e :=
 (zHs gr go n r o w hr.at_ ho.at_ hr.len ho.len hr.fits ho.fits).mono fun _ _ h=>h.relR
theorem zDr (gr go n:Nat) (r o:List Nat) (w:World) (hr:RelAt w gr n r) (ho:RelAt w go n o) :
  Calls Tryz.prog 77 #[.agg #[.slice (some ⟨gr,0,none⟩) n n],.agg #[.slice (some ⟨go,0,none⟩) n n]] w fun e w'=>zFv w w' n (Q.andR r o) e :=
 (zHI gr go n r o w hr.at_ ho.at_ hr.len ho.len hr.fits ho.fits).mono fun _ _ h=>h.relR
theorem zBm (gr go n:Nat) (r o:List Nat) (w:World) (hr:RelAt w gr n r) (ho:RelAt w go n o) :
  Calls Tryz.prog 76 #[.agg #[.slice (some ⟨gr,0,none⟩) n n],.agg #[.slice (some ⟨go,0,none⟩) n n]] w fun e w'=>zFv w w' n (Q.thenR r o) e :=
 (zHa gr go n r o w hr.at_ ho.at_ hr.len ho.len hr.fits ho.fits).mono fun _ _ h=>h.relR
theorem zFW (gr n:Nat) (r:List Nat) (w:World) (hr:RelAt w gr n r) :
  Calls Tryz.prog 110 #[.agg #[.slice (some ⟨gr,0,none⟩) n n]] w fun e w'=>zFv w w' n (Q.zJG r) e :=
 (zFV gr n r w hr.at_ hr.len hr.fits).mono fun _ _ h=>h.relR
theorem zCq (gr n:Nat) (r:List Nat) (w:World) (hr:RelAt w gr n r) :
  Calls Tryz.prog 54 #[.agg #[.slice (some ⟨gr,0,none⟩) n n]] w fun e w'=>zFv w w' n (Q.zJj r) e :=
 (zDL gr n r w hr.at_ hr.len hr.fits).mono fun _ _ h=>h.relR
theorem zBI (gr n:Nat) (r:List Nat) (w:World) (hr:RelAt w gr n r) :
  Calls Tryz.prog 82 #[.agg #[.slice (some ⟨gr,0,none⟩) n n]] w fun e w'=>e=.returned (.bool (Q.zIK r))∧Below w.heap.size w w' :=
 zEu gr n r w hr.at_ hr.len hr.fits
theorem zDs (gr n:Nat) (r:List Nat) (w:World) (hr:RelAt w gr n r) :
  Calls Tryz.prog 74 #[.agg #[.slice (some ⟨gr,0,none⟩) n n]] w fun e w'=>e=.returned (.bool (Q.zJY r))∧Below w.heap.size w w' :=
 zEV gr n r w hr.at_ hr.len hr.fits
theorem zBE (gr n:Nat) (r:List Nat) (a b:Int) (w:World) (hr:RelAt w gr n r) :
  Calls Tryz.prog 75 #[.agg #[.slice (some ⟨gr,0,none⟩) n n],.int .i64 a,.int .i64 b] w fun e w'=>e=.returned (.bool (Q.hasR r a b))∧Below w.heap.size w w' :=
 zBF gr n r a b w hr.at_ hr.len.symm hr.fits
theorem zAn {w w1 w2:World} {B:Nat} (h:Below B w w1) (hB:B≤w.heap.size) (k:Below w1.heap.size w1 w2):Below B w w2:=h.trans (k.mono (Nat.le_trans hB h.size))
theorem zEW (a:FA) (f:Q.Facts) (gr:Nat) (rd:List Nat) (w:World) (hf:FactsIn w a f) (hr:RelAt w gr a.n rd) :
  Calls Tryz.prog 50 #[.agg (zAl a),.agg #[.slice (some ⟨gr,0,none⟩) a.n a.n]] w fun e w'=>e=.returned (.bool (f.hangsOn rd))∧Below w.heap.size w w':=by
 have HE:Hid (f.hangsOn rd=Q.zJY (Q.orR f.hangs rd)):=rfl
 have BB:Hid (∀ o p,Below w.heap.size w ((w.alloc o).alloc p)):=fun o p=>((Below.refl _ _).alloc (Nat.le_refl _) _).alloc (by simp) _
 have R6:=zAa hf.r6
 have RR:=zAa hr
 obtain⟨x,c,hev,hx⟩:=hf.form
 clear hf hr hx
 obtain⟨n,ev,g1,g2,g3,g4,g5,g6,g7,g8,g9⟩:=a
 simp only at hev R6 RR
 subst hev
 simp only[zAl]
 go_enter Tryz.func50,Tryz.ntmps50
 go_wp2_with (first
  | (go_at_call 53;refine (zCu g6 gr n f.hangs rd _ (R6.out.below (BB.out _ _)) (RR.out.below (BB.out _ _))).mono ?_;rintro e w1 ⟨q1,rfl,hq1,hb1⟩;have B1:=zAa ((BB.out _ _).trans (hb1.mono (by simp;omega)));have Q1:=zAa hq1;clear hq1 hb1)
  | (go_at_call 74;(refine (zDs q1 n _ _ Q1.out).mono ?_;rintro e w2 ⟨rfl,hb2⟩;have B2:=zAa (zAn B1.out (Nat.le_refl _) hb2))))
 go_ret
 rw[HE.out];exact⟨rfl,B2.out⟩
end Go.Proofs.YtkmebkbpfmoeaaaGreat
