import Derived.Test.YtkmebkbpfmoeaaaGreatH27
import Derived.Test.YtkmebkbpfmoeaaaGreatH16
set_option linter.unusedVariables false
set_option linter.unusedSimpArgs false
set_option maxHeartbeats 12800000
namespace Go.Proofs.YtkmebkbpfmoeaaaGreat
open Go Go.RowKit
set_option maxRecDepth 100000
theorem Tryz.infoEv:(Tryz.prog.info? 129).map (fun i=>(i.zero,i.size,i.bytes))=some (some (.agg (zAb Q.Ev.zero)),10,80):=by kernel_rfl
theorem zFA (n:Nat):(madeCells (zAb Q.Ev.zero) (n*10)).size=n*10:=by simp[madeCells]
theorem zAW.keep2 {w w':World} {g n c:Nat} {es:List Q.Ev} (h:zAW w (.slice (some ⟨g,0,none⟩) n c) es) (e:w'.heap[g]?=w.heap[g]?) (_:True=True):zAW w' (.slice (some ⟨g,0,none⟩) n c) es:=zAc h (fun k hk=>by simp[Value.ownBlock] at hk;subst hk;exact e)
namespace Q
def hangsOk (es:List Ev):Prop:=∀ e∈es,e.hangs<M64
theorem hangsOk.ev {es:List Ev} (h:hangsOk es) (k:Nat) (hk:k<es.length):(Q.ev es k).hangs<M64:=by rw[zDO es k hk];exact h _ (List.getElem_mem hk)
end Q
theorem FactsIn.frame {w w':World} {a:FA} {f:Q.Facts} {r:Nat} {c:Array Value} (h:FactsIn w a f) (hr:w.heap[r]?=some (.cells c 66 (0,0))) (hk:∀ k,k≠r→w'.heap[k]?=w.heap[k]?):FactsIn w' a f:=by
 have R:∀ {g:Nat} {l:List Nat},RelAt w g a.n l→RelAt w' g a.n l:=fun hx=>⟨hx.at_.of_block (hk _ (fun e=>by have:=zAF hx.at_ hr (by decide);exact this e.symm)),hx.len,hx.fits⟩
 refine⟨zAc h.ev (fun k e=>hk k ?_),h.len,h.n64,R h.r1,R h.r2,R h.r3,R h.r4,R h.r5,R h.r6,R h.r7,R h.r8,R h.r9⟩
 intro hkr
 subst hkr
 rcases h.ev.2 with ⟨e1,_⟩ | ⟨g',cap,cur,e1,_,hh,_⟩
 ·rw[e1] at e;simp[Value.ownBlock] at e
 ·rw[e1] at e;simp[Value.ownBlock] at e
  subst e
  rw[hr] at hh;simp at hh
theorem zDx (v:Value) (es:List Q.Ev) (w:World) (he:zAW w v es) (hpos:0<es.length) (hn:es.length≤64) (hok:Q.hangsOk es) :
  Calls Tryz.prog 70 #[v] w fun e w'=>∃ a,e=.returned (.agg (zAl a))∧a.n=es.length∧FactsIn w' a (Q.zIx es)∧Below w.heap.size w w':=by
 obtain⟨ea,n,ec,hl,rfl,hea⟩:∃ ea n ec,es.length=n∧v=.slice ea n ec∧(0<n→∃ b,ea=some ⟨b,0,none⟩∧b<w.heap.size):=by
  obtain⟨a,c,h1,h2⟩:=he.form
  exact⟨a,_,c,rfl,h1,h2⟩
 obtain⟨be,rfl,hbe⟩:=hea (by omega)
 obtain⟨iz,hi,hz0,hz1,hz2⟩:=info_parts Tryz.infoEv
 have hmk:∀ w,(Instr.makeSlice 59 (.int .i64 (n:Int)) (.int .i64 (n:Int))).run Tryz.prog w=.ok (.slice (some ⟨w.heap.size,0,none⟩) n n) (w.alloc (.cells (madeCells (zAb Q.Ev.zero) (n*10)) 129)):=fun w=>by
  have h:=run_makeSlice (P:=Tryz.prog) w 59 129 iz (.agg (zAb Q.Ev.zero)) Tryz.underlying59 hi hz0 .i64 .i64 (n:Int) (n:Int) (by omega) (Int.le_refl _) (by rw[hz1];simp;omega) (by rw[hz2];omega) (by omega)
  rw[hz1] at h
  have e:(Value.agg (zAb Q.Ev.zero)).cells=zAb Q.Ev.zero:=rfl
  rw[e] at h
  simpa using h
 have HFE:Hid (Q.zIx es=(List.range n).foldl (Q.zJe es) (Q.Facts.new es)):=by unfold Hid Q.zIx;rw[hl]
 have HFR:Hid (∀ f k,Q.zJe es f k=(List.range n).foldl (fun f q=>f.pair k (Q.ev es k) q (Q.ev es q)) f):=fun f k=>by unfold Q.zJe;rw[hl]
 obtain⟨k0,hsz,hbw⟩:=zBt w #[.slice none 0 0,.slice none 0 0,.slice none 0 0,.slice none 0 0,.slice none 0 0,.slice none 0 0,.slice none 0 0,.slice none 0 0,.slice none 0 0,.slice none 0 0] 66
 have BW0:=zAa hbw
 have HE0:=zAa (he.below hbw)
 have hbe0:be<(w.alloc (.cells #[.slice none 0 0,.slice none 0 0,.slice none 0 0,.slice none 0 0,.slice none 0 0,.slice none 0 0,.slice none 0 0,.slice none 0 0,.slice none 0 0,.slice none 0 0] 66)).heap.size:=by omega
 have HL:=zAa hl
 have HEW:=zAa he
 have HOK:=zAa hok
 have hn':n≤64:=by omega
 have hpos':0<n:=by omega
 clear hbw he hl hn hpos hok
 go_enter Tryz.func70,Tryz.ntmps70
 go_upto_region 2 with fail
 generalize hE:w.alloc (.cells #[.slice none 0 0,.slice none 0 0,.slice none 0 0,.slice none 0 0,.slice none 0 0,.slice none 0 0,.slice none 0 0,.slice none 0 0,.slice none 0 0,.slice none 0 0] 66)=W0 at *
 have l0:w.heap.size<W0.heap.size:=by omega
 have hszl:w.heap.size+1≤W0.heap.size:=by omega
 have K0:=zAa k0
 clear hE hsz k0
 have hcp:(Builtin.copy_ #[59,59] 3 #[.slice (some ⟨W0.heap.size,0,none⟩) n n,.slice (some ⟨be,0,none⟩) n ec]).run Tryz.prog ((W0.alloc (.cells (madeCells (zAb Q.Ev.zero) (n*10)) 129)).alloc (.cells #[.slice (some ⟨W0.heap.size,0,none⟩) n n,.slice none 0 0,.slice none 0 0,.slice none 0 0,.slice none 0 0,.slice none 0 0,.slice none 0 0,.slice none 0 0,.slice none 0 0,.slice none 0 0] 66))=.ok (goInt (Nat.min n n)) (((W0.alloc (.cells (madeCells (zAb Q.Ev.zero) (n*10)) 129)).alloc (.cells #[.slice (some ⟨W0.heap.size,0,none⟩) n n,.slice none 0 0,.slice none 0 0,.slice none 0 0,.slice none 0 0,.slice none 0 0,.slice none 0 0,.slice none 0 0,.slice none 0 0,.slice none 0 0] 66)).setCells W0.heap.size 0 (zAL es)):=by
  have hnew:((W0.alloc (.cells (madeCells (zAb Q.Ev.zero) (n*10)) 129)).alloc (.cells #[.slice (some ⟨W0.heap.size,0,none⟩) n n,.slice none 0 0,.slice none 0 0,.slice none 0 0,.slice none 0 0,.slice none 0 0,.slice none 0 0,.slice none 0 0,.slice none 0 0,.slice none 0 0] 66)).heap[W0.heap.size]?=some (.cells (madeCells (zAb Q.Ev.zero) (n*10)) 129 (0,0)):=by
   rw[Below.heap_alloc _ _ _ (by simp)];exact heap_alloc_new W0 _
  refine zEb _ _ _ _ 129 _ _ _ _ _ _ _ 10 _ Tryz.underlying59 (by kernel_rfl) (by rw[zAJ,HL.out];simp) ?_ ?_ ?_ (zDq es)
  ·intro j u hu
   have hj:j<n*10:=by have h1:=(List.getElem?_eq_some_iff.1 hu).1;rw[zAJ,HL.out] at h1;exact h1
   have ea:(⟨be,0,none⟩:Addr).add j=⟨be,j,none⟩:=by unfold Addr.add;split<;>simp_all
   have h2:W0.cell? ⟨be,j,none⟩=(zAL es)[j]?:=by
    have h3:=HE0.out
    unfold zAW at h3
    rw[HL.out] at h3
    exact h3.cellAt j hj
   rw[ea,← hu,← h2]
   simp only[World.cell?]
   rw[Below.heap_alloc _ _ _ (by simp;omega),Below.heap_alloc _ _ _ hbe0]
  ·intro j hj
   rw[zAJ,HL.out] at hj
   have h1:j<(madeCells (zAb Q.Ev.zero) (n*10)).size:=by rw[zFA];exact hj
   simp only[World.cell?,hnew,Nat.zero_add]
   simp[h1]
  ·intro j hj
   simp only[World.frozen?,hnew];simp
 have hmin:Nat.min n n=n:=Nat.min_self n
 rw[hmin] at hcp
 have H1:Hid (∃ W1:World,W1=((W0.alloc (.cells (madeCells (zAb Q.Ev.zero) (n*10)) 129)).alloc (.cells #[.slice (some ⟨W0.heap.size,0,none⟩) n n,.slice none 0 0,.slice none 0 0,.slice none 0 0,.slice none 0 0,.slice none 0 0,.slice none 0 0,.slice none 0 0,.slice none 0 0,.slice none 0 0] 66)).setCells W0.heap.size 0 (zAL es)∧W1.heap[W0.heap.size+1]?=some (.cells #[.slice (some ⟨W0.heap.size,0,none⟩) n n,.slice none 0 0,.slice none 0 0,.slice none 0 0,.slice none 0 0,.slice none 0 0,.slice none 0 0,.slice none 0 0,.slice none 0 0,.slice none 0 0] 66 (0,0))∧zAW W1 (.slice (some ⟨W0.heap.size,0,none⟩) n n) es∧Below W0.heap.size W0 W1∧W0.heap.size+2≤W1.heap.size):=by
  refine⟨_,rfl,?_,?_,?_,?_⟩
  ·rw[zBq _ _ _ _ _ (by omega)]
   have:=heap_alloc_new (W0.alloc (.cells (madeCells (zAb Q.Ev.zero) (n*10)) 129)) (.cells #[.slice (some ⟨W0.heap.size,0,none⟩) n n,.slice none 0 0,.slice none 0 0,.slice none 0 0,.slice none 0 0,.slice none 0 0,.slice none 0 0,.slice none 0 0,.slice none 0 0,.slice none 0 0] 66)
   simpa using this
  ·have hnew:((W0.alloc (.cells (madeCells (zAb Q.Ev.zero) (n*10)) 129)).alloc (.cells #[.slice (some ⟨W0.heap.size,0,none⟩) n n,.slice none 0 0,.slice none 0 0,.slice none 0 0,.slice none 0 0,.slice none 0 0,.slice none 0 0,.slice none 0 0,.slice none 0 0,.slice none 0 0] 66)).heap[W0.heap.size]?=some (.cells ((madeCells (zAb Q.Ev.zero) (n*10)).toList.toArray) 129 (0,0)):=by
    rw[Below.heap_alloc _ _ _ (by simp)];simpa using heap_alloc_new W0 (.cells (madeCells (zAb Q.Ev.zero) (n*10)) 129)
   have h1:=zBs W0.heap.size 129 (0,0) (zAL es) _ 0 _ hnew
   have h2:=zEa (zAL es) [] (madeCells (zAb Q.Ev.zero) (n*10)).toList (by rw[zAJ,HL.out,Array.length_toList,zFA])
   simp only[List.nil_append,List.length_nil] at h2
   rw[h2] at h1
   refine⟨by rw[zAJ],Or.inr ⟨W0.heap.size,n,(zAL es).toArray,by rw[HL.out],Nat.zero_le _,h1,by rw[HL.out];exact Nat.le_refl _,by unfold maxLen;omega,by simp[zAJ,HL.out],by simp only[List.toList_toArray];exact List.take_of_length_le (by rw[zAJ];exact Nat.le_refl _)⟩⟩
  ·exact Below.setCells (Nat.le_refl _) _ _ _ (((Below.refl _ _).alloc (Nat.le_refl _) _).alloc (by simp) _)
  ·rw[zAS];simp
 obtain⟨W1,hW1,kb,hev1,hb1,hs1⟩:=H1.out
 clear H1
 rw[← hW1] at hcp
 go_upto_region 4 with fail
 (try rw[← hW1])
 have BB0:Hid (Below (w.heap.size+1) W0 W1):=hb1.mono hszl
 generalize hge:W0.heap.size=ge at *
 generalize hfb:ge+1=fb at *
 have hgf:ge<fb:=by omega
 have EV0:=zAa hev1
 have KB0:=zAa kb
 have hb0:=zAa hb1
 clear kb hev1 hb1 hs1 hcp hW1 hmk hi hz0 hz1 hz2 hbe0 hfb
 obtain⟨y0,y1,y2,y3,y4,y5,y6,y7,y8,y9,yf,yl⟩:=zAM KB0.out
 go_upto_region 5 with (first | (go_at_call 72;refine (zBn n _ hn').mono ?_;rintro e w1 ⟨g1,rfl,hsn,hgn1,hll,hfn,hb⟩;have R1_1:=zAa (RelAt.mk hsn hll hfn);have KX:=zAa ((hb.block _ yl).trans KB0.out);have XB:=zAa hb;clear hsn hll hfn hb y0 y1 y2 y3 y4 y5 y6 y7 y8 y9 yf yl;obtain⟨y0,y1,y2,y3,y4,y5,y6,y7,y8,y9,yf,yl⟩:=zAM KX.out))
 have hfg1:fb<g1:=by have:=(Array.getElem?_eq_some_iff.1 KB0.out).1;omega
 have KB1:Hid ((w1.setCell ⟨fb,1,none⟩ (.slice (some ⟨g1,0,none⟩) n n)).heap[fb]?=some (.cells #[.slice (some ⟨ge,0,none⟩) n n,.slice (some ⟨g1,0,none⟩) n n,.slice none 0 0,.slice none 0 0,.slice none 0 0,.slice none 0 0,.slice none 0 0,.slice none 0 0,.slice none 0 0,.slice none 0 0] 66 (0,0))):=by unfold Hid;rw[zAf KX.out];rfl
 have S1:Hid (RelAt (w1.setCell ⟨fb,1,none⟩ (.slice (some ⟨g1,0,none⟩) n n)) g1 n (Q.newR n)):=by have h1:=R1_1.out;exact⟨h1.at_.of_block (Below.heap_setCell _ _ _ _ (by simp;omega)),h1.len,h1.fits⟩
 have EV1:Hid (zAW (w1.setCell ⟨fb,1,none⟩ (.slice (some ⟨g1,0,none⟩) n n)) (.slice (some ⟨ge,0,none⟩) n n) es):=(EV0.out.below XB.out).keep2 (Below.heap_setCell _ _ _ _ (by simp;omega)) rfl
 have BB1:Hid (Below (w.heap.size+1) W0 (w1.setCell ⟨fb,1,none⟩ (.slice (some ⟨g1,0,none⟩) n n))):=(zAn BB0.out (by omega) XB.out).setCell (p:=⟨fb,1,none⟩) (by simp;omega) _
 have hsg1:g1<(w1.setCell ⟨fb,1,none⟩ (.slice (some ⟨g1,0,none⟩) n n)).heap.size:=S1.out.lt
 clear y0 y1 y2 y3 y4 y5 y6 y7 y8 y9 yf yl KX XB R1_1
 generalize hgen1:w1.setCell ⟨fb,1,none⟩ (.slice (some ⟨g1,0,none⟩) n n)=V1 at *
 clear hgen1
 have R1_1:=S1
 clear S1 KB0 EV0 BB0
 obtain⟨y0,y1,y2,y3,y4,y5,y6,y7,y8,y9,yf,yl⟩:=zAM KB1.out
 go_upto_region 6 with (first | (go_at_call 72;refine (zBn n _ hn').mono ?_;rintro e w2 ⟨g2,rfl,hsn,hgn2,hll,hfn,hb⟩;have R2_2:=zAa (RelAt.mk hsn hll hfn);have KX:=zAa ((hb.block _ yl).trans KB1.out);have XB:=zAa hb;clear hsn hll hfn hb y0 y1 y2 y3 y4 y5 y6 y7 y8 y9 yf yl;obtain⟨y0,y1,y2,y3,y4,y5,y6,y7,y8,y9,yf,yl⟩:=zAM KX.out))
 have hfg2:fb<g2:=by have:=(Array.getElem?_eq_some_iff.1 KB1.out).1;omega
 have KB2:Hid ((w2.setCell ⟨fb,2,none⟩ (.slice (some ⟨g2,0,none⟩) n n)).heap[fb]?=some (.cells #[.slice (some ⟨ge,0,none⟩) n n,.slice (some ⟨g1,0,none⟩) n n,.slice (some ⟨g2,0,none⟩) n n,.slice none 0 0,.slice none 0 0,.slice none 0 0,.slice none 0 0,.slice none 0 0,.slice none 0 0,.slice none 0 0] 66 (0,0))):=by unfold Hid;rw[zAf KX.out];rfl
 have R1_2:Hid (RelAt (w2.setCell ⟨fb,2,none⟩ (.slice (some ⟨g2,0,none⟩) n n)) g1 n (Q.newR n)):=by have h1:=R1_1.out.below XB.out;exact⟨h1.at_.of_block (Below.heap_setCell _ _ _ _ (by simp;omega)),h1.len,h1.fits⟩
 have S2:Hid (RelAt (w2.setCell ⟨fb,2,none⟩ (.slice (some ⟨g2,0,none⟩) n n)) g2 n (Q.newR n)):=by have h1:=R2_2.out;exact⟨h1.at_.of_block (Below.heap_setCell _ _ _ _ (by simp;omega)),h1.len,h1.fits⟩
 have EV2:Hid (zAW (w2.setCell ⟨fb,2,none⟩ (.slice (some ⟨g2,0,none⟩) n n)) (.slice (some ⟨ge,0,none⟩) n n) es):=(EV1.out.below XB.out).keep2 (Below.heap_setCell _ _ _ _ (by simp;omega)) rfl
 have BB2:Hid (Below (w.heap.size+1) W0 (w2.setCell ⟨fb,2,none⟩ (.slice (some ⟨g2,0,none⟩) n n))):=(zAn BB1.out (by omega) XB.out).setCell (p:=⟨fb,2,none⟩) (by simp;omega) _
 have hsg2:g2<(w2.setCell ⟨fb,2,none⟩ (.slice (some ⟨g2,0,none⟩) n n)).heap.size:=S2.out.lt
 clear y0 y1 y2 y3 y4 y5 y6 y7 y8 y9 yf yl KX XB R2_2
 generalize hgen2:w2.setCell ⟨fb,2,none⟩ (.slice (some ⟨g2,0,none⟩) n n)=V2 at *
 clear hgen2
 have R2_2:=S2
 clear S2 KB1 EV1 BB1 R1_1
 obtain⟨y0,y1,y2,y3,y4,y5,y6,y7,y8,y9,yf,yl⟩:=zAM KB2.out
 go_upto_region 7 with (first | (go_at_call 72;refine (zBn n _ hn').mono ?_;rintro e w3 ⟨g3,rfl,hsn,hgn3,hll,hfn,hb⟩;have R3_3:=zAa (RelAt.mk hsn hll hfn);have KX:=zAa ((hb.block _ yl).trans KB2.out);have XB:=zAa hb;clear hsn hll hfn hb y0 y1 y2 y3 y4 y5 y6 y7 y8 y9 yf yl;obtain⟨y0,y1,y2,y3,y4,y5,y6,y7,y8,y9,yf,yl⟩:=zAM KX.out))
 have hfg3:fb<g3:=by have:=(Array.getElem?_eq_some_iff.1 KB2.out).1;omega
 have KB3:Hid ((w3.setCell ⟨fb,3,none⟩ (.slice (some ⟨g3,0,none⟩) n n)).heap[fb]?=some (.cells #[.slice (some ⟨ge,0,none⟩) n n,.slice (some ⟨g1,0,none⟩) n n,.slice (some ⟨g2,0,none⟩) n n,.slice (some ⟨g3,0,none⟩) n n,.slice none 0 0,.slice none 0 0,.slice none 0 0,.slice none 0 0,.slice none 0 0,.slice none 0 0] 66 (0,0))):=by unfold Hid;rw[zAf KX.out];rfl
 have R1_3:Hid (RelAt (w3.setCell ⟨fb,3,none⟩ (.slice (some ⟨g3,0,none⟩) n n)) g1 n (Q.newR n)):=by have h1:=R1_2.out.below XB.out;exact⟨h1.at_.of_block (Below.heap_setCell _ _ _ _ (by simp;omega)),h1.len,h1.fits⟩
 have R2_3:Hid (RelAt (w3.setCell ⟨fb,3,none⟩ (.slice (some ⟨g3,0,none⟩) n n)) g2 n (Q.newR n)):=by have h1:=R2_2.out.below XB.out;exact⟨h1.at_.of_block (Below.heap_setCell _ _ _ _ (by simp;omega)),h1.len,h1.fits⟩
 have S3:Hid (RelAt (w3.setCell ⟨fb,3,none⟩ (.slice (some ⟨g3,0,none⟩) n n)) g3 n (Q.newR n)):=by have h1:=R3_3.out;exact⟨h1.at_.of_block (Below.heap_setCell _ _ _ _ (by simp;omega)),h1.len,h1.fits⟩
 have EV3:Hid (zAW (w3.setCell ⟨fb,3,none⟩ (.slice (some ⟨g3,0,none⟩) n n)) (.slice (some ⟨ge,0,none⟩) n n) es):=(EV2.out.below XB.out).keep2 (Below.heap_setCell _ _ _ _ (by simp;omega)) rfl
 have BB3:Hid (Below (w.heap.size+1) W0 (w3.setCell ⟨fb,3,none⟩ (.slice (some ⟨g3,0,none⟩) n n))):=(zAn BB2.out (by omega) XB.out).setCell (p:=⟨fb,3,none⟩) (by simp;omega) _
 have hsg3:g3<(w3.setCell ⟨fb,3,none⟩ (.slice (some ⟨g3,0,none⟩) n n)).heap.size:=S3.out.lt
 clear y0 y1 y2 y3 y4 y5 y6 y7 y8 y9 yf yl KX XB R3_3
 generalize hgen3:w3.setCell ⟨fb,3,none⟩ (.slice (some ⟨g3,0,none⟩) n n)=V3 at *
 clear hgen3
 have R3_3:=S3
 clear S3 KB2 EV2 BB2 R1_2 R2_2
 obtain⟨y0,y1,y2,y3,y4,y5,y6,y7,y8,y9,yf,yl⟩:=zAM KB3.out
 go_upto_region 8 with (first | (go_at_call 72;refine (zBn n _ hn').mono ?_;rintro e w4 ⟨g4,rfl,hsn,hgn4,hll,hfn,hb⟩;have R4_4:=zAa (RelAt.mk hsn hll hfn);have KX:=zAa ((hb.block _ yl).trans KB3.out);have XB:=zAa hb;clear hsn hll hfn hb y0 y1 y2 y3 y4 y5 y6 y7 y8 y9 yf yl;obtain⟨y0,y1,y2,y3,y4,y5,y6,y7,y8,y9,yf,yl⟩:=zAM KX.out))
 have hfg4:fb<g4:=by have:=(Array.getElem?_eq_some_iff.1 KB3.out).1;omega
 have KB4:Hid ((w4.setCell ⟨fb,4,none⟩ (.slice (some ⟨g4,0,none⟩) n n)).heap[fb]?=some (.cells #[.slice (some ⟨ge,0,none⟩) n n,.slice (some ⟨g1,0,none⟩) n n,.slice (some ⟨g2,0,none⟩) n n,.slice (some ⟨g3,0,none⟩) n n,.slice (some ⟨g4,0,none⟩) n n,.slice none 0 0,.slice none 0 0,.slice none 0 0,.slice none 0 0,.slice none 0 0] 66 (0,0))):=by unfold Hid;rw[zAf KX.out];rfl
 have R1_4:Hid (RelAt (w4.setCell ⟨fb,4,none⟩ (.slice (some ⟨g4,0,none⟩) n n)) g1 n (Q.newR n)):=by have h1:=R1_3.out.below XB.out;exact⟨h1.at_.of_block (Below.heap_setCell _ _ _ _ (by simp;omega)),h1.len,h1.fits⟩
 have R2_4:Hid (RelAt (w4.setCell ⟨fb,4,none⟩ (.slice (some ⟨g4,0,none⟩) n n)) g2 n (Q.newR n)):=by have h1:=R2_3.out.below XB.out;exact⟨h1.at_.of_block (Below.heap_setCell _ _ _ _ (by simp;omega)),h1.len,h1.fits⟩
 have R3_4:Hid (RelAt (w4.setCell ⟨fb,4,none⟩ (.slice (some ⟨g4,0,none⟩) n n)) g3 n (Q.newR n)):=by have h1:=R3_3.out.below XB.out;exact⟨h1.at_.of_block (Below.heap_setCell _ _ _ _ (by simp;omega)),h1.len,h1.fits⟩
 have S4:Hid (RelAt (w4.setCell ⟨fb,4,none⟩ (.slice (some ⟨g4,0,none⟩) n n)) g4 n (Q.newR n)):=by have h1:=R4_4.out;exact⟨h1.at_.of_block (Below.heap_setCell _ _ _ _ (by simp;omega)),h1.len,h1.fits⟩
 have EV4:Hid (zAW (w4.setCell ⟨fb,4,none⟩ (.slice (some ⟨g4,0,none⟩) n n)) (.slice (some ⟨ge,0,none⟩) n n) es):=(EV3.out.below XB.out).keep2 (Below.heap_setCell _ _ _ _ (by simp;omega)) rfl
 have BB4:Hid (Below (w.heap.size+1) W0 (w4.setCell ⟨fb,4,none⟩ (.slice (some ⟨g4,0,none⟩) n n))):=(zAn BB3.out (by omega) XB.out).setCell (p:=⟨fb,4,none⟩) (by simp;omega) _
 have hsg4:g4<(w4.setCell ⟨fb,4,none⟩ (.slice (some ⟨g4,0,none⟩) n n)).heap.size:=S4.out.lt
 clear y0 y1 y2 y3 y4 y5 y6 y7 y8 y9 yf yl KX XB R4_4
 generalize hgen4:w4.setCell ⟨fb,4,none⟩ (.slice (some ⟨g4,0,none⟩) n n)=V4 at *
 clear hgen4
 have R4_4:=S4
 clear S4 KB3 EV3 BB3 R1_3 R2_3 R3_3
 obtain⟨y0,y1,y2,y3,y4,y5,y6,y7,y8,y9,yf,yl⟩:=zAM KB4.out
 go_upto_region 9 with (first | (go_at_call 72;refine (zBn n _ hn').mono ?_;rintro e w5 ⟨g5,rfl,hsn,hgn5,hll,hfn,hb⟩;have R5_5:=zAa (RelAt.mk hsn hll hfn);have KX:=zAa ((hb.block _ yl).trans KB4.out);have XB:=zAa hb;clear hsn hll hfn hb y0 y1 y2 y3 y4 y5 y6 y7 y8 y9 yf yl;obtain⟨y0,y1,y2,y3,y4,y5,y6,y7,y8,y9,yf,yl⟩:=zAM KX.out))
 have hfg5:fb<g5:=by have:=(Array.getElem?_eq_some_iff.1 KB4.out).1;omega
 have KB5:Hid ((w5.setCell ⟨fb,5,none⟩ (.slice (some ⟨g5,0,none⟩) n n)).heap[fb]?=some (.cells #[.slice (some ⟨ge,0,none⟩) n n,.slice (some ⟨g1,0,none⟩) n n,.slice (some ⟨g2,0,none⟩) n n,.slice (some ⟨g3,0,none⟩) n n,.slice (some ⟨g4,0,none⟩) n n,.slice (some ⟨g5,0,none⟩) n n,.slice none 0 0,.slice none 0 0,.slice none 0 0,.slice none 0 0] 66 (0,0))):=by unfold Hid;rw[zAf KX.out];rfl
 have R1_5:Hid (RelAt (w5.setCell ⟨fb,5,none⟩ (.slice (some ⟨g5,0,none⟩) n n)) g1 n (Q.newR n)):=by have h1:=R1_4.out.below XB.out;exact⟨h1.at_.of_block (Below.heap_setCell _ _ _ _ (by simp;omega)),h1.len,h1.fits⟩
 have R2_5:Hid (RelAt (w5.setCell ⟨fb,5,none⟩ (.slice (some ⟨g5,0,none⟩) n n)) g2 n (Q.newR n)):=by have h1:=R2_4.out.below XB.out;exact⟨h1.at_.of_block (Below.heap_setCell _ _ _ _ (by simp;omega)),h1.len,h1.fits⟩
 have R3_5:Hid (RelAt (w5.setCell ⟨fb,5,none⟩ (.slice (some ⟨g5,0,none⟩) n n)) g3 n (Q.newR n)):=by have h1:=R3_4.out.below XB.out;exact⟨h1.at_.of_block (Below.heap_setCell _ _ _ _ (by simp;omega)),h1.len,h1.fits⟩
 have R4_5:Hid (RelAt (w5.setCell ⟨fb,5,none⟩ (.slice (some ⟨g5,0,none⟩) n n)) g4 n (Q.newR n)):=by have h1:=R4_4.out.below XB.out;exact⟨h1.at_.of_block (Below.heap_setCell _ _ _ _ (by simp;omega)),h1.len,h1.fits⟩
 have S5:Hid (RelAt (w5.setCell ⟨fb,5,none⟩ (.slice (some ⟨g5,0,none⟩) n n)) g5 n (Q.newR n)):=by have h1:=R5_5.out;exact⟨h1.at_.of_block (Below.heap_setCell _ _ _ _ (by simp;omega)),h1.len,h1.fits⟩
 have EV5:Hid (zAW (w5.setCell ⟨fb,5,none⟩ (.slice (some ⟨g5,0,none⟩) n n)) (.slice (some ⟨ge,0,none⟩) n n) es):=(EV4.out.below XB.out).keep2 (Below.heap_setCell _ _ _ _ (by simp;omega)) rfl
 have BB5:Hid (Below (w.heap.size+1) W0 (w5.setCell ⟨fb,5,none⟩ (.slice (some ⟨g5,0,none⟩) n n))):=(zAn BB4.out (by omega) XB.out).setCell (p:=⟨fb,5,none⟩) (by simp;omega) _
 have hsg5:g5<(w5.setCell ⟨fb,5,none⟩ (.slice (some ⟨g5,0,none⟩) n n)).heap.size:=S5.out.lt
 clear y0 y1 y2 y3 y4 y5 y6 y7 y8 y9 yf yl KX XB R5_5
 generalize hgen5:w5.setCell ⟨fb,5,none⟩ (.slice (some ⟨g5,0,none⟩) n n)=V5 at *
 clear hgen5
 have R5_5:=S5
 clear S5 KB4 EV4 BB4 R1_4 R2_4 R3_4 R4_4
 obtain⟨y0,y1,y2,y3,y4,y5,y6,y7,y8,y9,yf,yl⟩:=zAM KB5.out
 go_upto_region 10 with (first | (go_at_call 72;refine (zBn n _ hn').mono ?_;rintro e w6 ⟨g6,rfl,hsn,hgn6,hll,hfn,hb⟩;have R6_6:=zAa (RelAt.mk hsn hll hfn);have KX:=zAa ((hb.block _ yl).trans KB5.out);have XB:=zAa hb;clear hsn hll hfn hb y0 y1 y2 y3 y4 y5 y6 y7 y8 y9 yf yl;obtain⟨y0,y1,y2,y3,y4,y5,y6,y7,y8,y9,yf,yl⟩:=zAM KX.out))
 have hfg6:fb<g6:=by have:=(Array.getElem?_eq_some_iff.1 KB5.out).1;omega
 have KB6:Hid ((w6.setCell ⟨fb,6,none⟩ (.slice (some ⟨g6,0,none⟩) n n)).heap[fb]?=some (.cells #[.slice (some ⟨ge,0,none⟩) n n,.slice (some ⟨g1,0,none⟩) n n,.slice (some ⟨g2,0,none⟩) n n,.slice (some ⟨g3,0,none⟩) n n,.slice (some ⟨g4,0,none⟩) n n,.slice (some ⟨g5,0,none⟩) n n,.slice (some ⟨g6,0,none⟩) n n,.slice none 0 0,.slice none 0 0,.slice none 0 0] 66 (0,0))):=by unfold Hid;rw[zAf KX.out];rfl
 have R1_6:Hid (RelAt (w6.setCell ⟨fb,6,none⟩ (.slice (some ⟨g6,0,none⟩) n n)) g1 n (Q.newR n)):=by have h1:=R1_5.out.below XB.out;exact⟨h1.at_.of_block (Below.heap_setCell _ _ _ _ (by simp;omega)),h1.len,h1.fits⟩
 have R2_6:Hid (RelAt (w6.setCell ⟨fb,6,none⟩ (.slice (some ⟨g6,0,none⟩) n n)) g2 n (Q.newR n)):=by have h1:=R2_5.out.below XB.out;exact⟨h1.at_.of_block (Below.heap_setCell _ _ _ _ (by simp;omega)),h1.len,h1.fits⟩
 have R3_6:Hid (RelAt (w6.setCell ⟨fb,6,none⟩ (.slice (some ⟨g6,0,none⟩) n n)) g3 n (Q.newR n)):=by have h1:=R3_5.out.below XB.out;exact⟨h1.at_.of_block (Below.heap_setCell _ _ _ _ (by simp;omega)),h1.len,h1.fits⟩
 have R4_6:Hid (RelAt (w6.setCell ⟨fb,6,none⟩ (.slice (some ⟨g6,0,none⟩) n n)) g4 n (Q.newR n)):=by have h1:=R4_5.out.below XB.out;exact⟨h1.at_.of_block (Below.heap_setCell _ _ _ _ (by simp;omega)),h1.len,h1.fits⟩
 have R5_6:Hid (RelAt (w6.setCell ⟨fb,6,none⟩ (.slice (some ⟨g6,0,none⟩) n n)) g5 n (Q.newR n)):=by have h1:=R5_5.out.below XB.out;exact⟨h1.at_.of_block (Below.heap_setCell _ _ _ _ (by simp;omega)),h1.len,h1.fits⟩
 have S6:Hid (RelAt (w6.setCell ⟨fb,6,none⟩ (.slice (some ⟨g6,0,none⟩) n n)) g6 n (Q.newR n)):=by have h1:=R6_6.out;exact⟨h1.at_.of_block (Below.heap_setCell _ _ _ _ (by simp;omega)),h1.len,h1.fits⟩
 have EV6:Hid (zAW (w6.setCell ⟨fb,6,none⟩ (.slice (some ⟨g6,0,none⟩) n n)) (.slice (some ⟨ge,0,none⟩) n n) es):=(EV5.out.below XB.out).keep2 (Below.heap_setCell _ _ _ _ (by simp;omega)) rfl
 have BB6:Hid (Below (w.heap.size+1) W0 (w6.setCell ⟨fb,6,none⟩ (.slice (some ⟨g6,0,none⟩) n n))):=(zAn BB5.out (by omega) XB.out).setCell (p:=⟨fb,6,none⟩) (by simp;omega) _
 have hsg6:g6<(w6.setCell ⟨fb,6,none⟩ (.slice (some ⟨g6,0,none⟩) n n)).heap.size:=S6.out.lt
 clear y0 y1 y2 y3 y4 y5 y6 y7 y8 y9 yf yl KX XB R6_6
 generalize hgen6:w6.setCell ⟨fb,6,none⟩ (.slice (some ⟨g6,0,none⟩) n n)=V6 at *
 clear hgen6
 have R6_6:=S6
 clear S6 KB5 EV5 BB5 R1_5 R2_5 R3_5 R4_5 R5_5
 obtain⟨y0,y1,y2,y3,y4,y5,y6,y7,y8,y9,yf,yl⟩:=zAM KB6.out
 go_upto_region 11 with (first | (go_at_call 72;refine (zBn n _ hn').mono ?_;rintro e w7 ⟨g7,rfl,hsn,hgn7,hll,hfn,hb⟩;have R7_7:=zAa (RelAt.mk hsn hll hfn);have KX:=zAa ((hb.block _ yl).trans KB6.out);have XB:=zAa hb;clear hsn hll hfn hb y0 y1 y2 y3 y4 y5 y6 y7 y8 y9 yf yl;obtain⟨y0,y1,y2,y3,y4,y5,y6,y7,y8,y9,yf,yl⟩:=zAM KX.out))
 have hfg7:fb<g7:=by have:=(Array.getElem?_eq_some_iff.1 KB6.out).1;omega
 have KB7:Hid ((w7.setCell ⟨fb,7,none⟩ (.slice (some ⟨g7,0,none⟩) n n)).heap[fb]?=some (.cells #[.slice (some ⟨ge,0,none⟩) n n,.slice (some ⟨g1,0,none⟩) n n,.slice (some ⟨g2,0,none⟩) n n,.slice (some ⟨g3,0,none⟩) n n,.slice (some ⟨g4,0,none⟩) n n,.slice (some ⟨g5,0,none⟩) n n,.slice (some ⟨g6,0,none⟩) n n,.slice (some ⟨g7,0,none⟩) n n,.slice none 0 0,.slice none 0 0] 66 (0,0))):=by unfold Hid;rw[zAf KX.out];rfl
 have R1_7:Hid (RelAt (w7.setCell ⟨fb,7,none⟩ (.slice (some ⟨g7,0,none⟩) n n)) g1 n (Q.newR n)):=by have h1:=R1_6.out.below XB.out;exact⟨h1.at_.of_block (Below.heap_setCell _ _ _ _ (by simp;omega)),h1.len,h1.fits⟩
 have R2_7:Hid (RelAt (w7.setCell ⟨fb,7,none⟩ (.slice (some ⟨g7,0,none⟩) n n)) g2 n (Q.newR n)):=by have h1:=R2_6.out.below XB.out;exact⟨h1.at_.of_block (Below.heap_setCell _ _ _ _ (by simp;omega)),h1.len,h1.fits⟩
 have R3_7:Hid (RelAt (w7.setCell ⟨fb,7,none⟩ (.slice (some ⟨g7,0,none⟩) n n)) g3 n (Q.newR n)):=by have h1:=R3_6.out.below XB.out;exact⟨h1.at_.of_block (Below.heap_setCell _ _ _ _ (by simp;omega)),h1.len,h1.fits⟩
 have R4_7:Hid (RelAt (w7.setCell ⟨fb,7,none⟩ (.slice (some ⟨g7,0,none⟩) n n)) g4 n (Q.newR n)):=by have h1:=R4_6.out.below XB.out;exact⟨h1.at_.of_block (Below.heap_setCell _ _ _ _ (by simp;omega)),h1.len,h1.fits⟩
 have R5_7:Hid (RelAt (w7.setCell ⟨fb,7,none⟩ (.slice (some ⟨g7,0,none⟩) n n)) g5 n (Q.newR n)):=by have h1:=R5_6.out.below XB.out;exact⟨h1.at_.of_block (Below.heap_setCell _ _ _ _ (by simp;omega)),h1.len,h1.fits⟩
 have R6_7:Hid (RelAt (w7.setCell ⟨fb,7,none⟩ (.slice (some ⟨g7,0,none⟩) n n)) g6 n (Q.newR n)):=by have h1:=R6_6.out.below XB.out;exact⟨h1.at_.of_block (Below.heap_setCell _ _ _ _ (by simp;omega)),h1.len,h1.fits⟩
 have S7:Hid (RelAt (w7.setCell ⟨fb,7,none⟩ (.slice (some ⟨g7,0,none⟩) n n)) g7 n (Q.newR n)):=by have h1:=R7_7.out;exact⟨h1.at_.of_block (Below.heap_setCell _ _ _ _ (by simp;omega)),h1.len,h1.fits⟩
 have EV7:Hid (zAW (w7.setCell ⟨fb,7,none⟩ (.slice (some ⟨g7,0,none⟩) n n)) (.slice (some ⟨ge,0,none⟩) n n) es):=(EV6.out.below XB.out).keep2 (Below.heap_setCell _ _ _ _ (by simp;omega)) rfl
 have BB7:Hid (Below (w.heap.size+1) W0 (w7.setCell ⟨fb,7,none⟩ (.slice (some ⟨g7,0,none⟩) n n))):=(zAn BB6.out (by omega) XB.out).setCell (p:=⟨fb,7,none⟩) (by simp;omega) _
 have hsg7:g7<(w7.setCell ⟨fb,7,none⟩ (.slice (some ⟨g7,0,none⟩) n n)).heap.size:=S7.out.lt
 clear y0 y1 y2 y3 y4 y5 y6 y7 y8 y9 yf yl KX XB R7_7
 generalize hgen7:w7.setCell ⟨fb,7,none⟩ (.slice (some ⟨g7,0,none⟩) n n)=V7 at *
 clear hgen7
 have R7_7:=S7
 clear S7 KB6 EV6 BB6 R1_6 R2_6 R3_6 R4_6 R5_6 R6_6
 obtain⟨y0,y1,y2,y3,y4,y5,y6,y7,y8,y9,yf,yl⟩:=zAM KB7.out
 go_upto_region 12 with (first | (go_at_call 72;refine (zBn n _ hn').mono ?_;rintro e w8 ⟨g8,rfl,hsn,hgn8,hll,hfn,hb⟩;have R8_8:=zAa (RelAt.mk hsn hll hfn);have KX:=zAa ((hb.block _ yl).trans KB7.out);have XB:=zAa hb;clear hsn hll hfn hb y0 y1 y2 y3 y4 y5 y6 y7 y8 y9 yf yl;obtain⟨y0,y1,y2,y3,y4,y5,y6,y7,y8,y9,yf,yl⟩:=zAM KX.out))
 have hfg8:fb<g8:=by have:=(Array.getElem?_eq_some_iff.1 KB7.out).1;omega
 have KB8:Hid ((w8.setCell ⟨fb,8,none⟩ (.slice (some ⟨g8,0,none⟩) n n)).heap[fb]?=some (.cells #[.slice (some ⟨ge,0,none⟩) n n,.slice (some ⟨g1,0,none⟩) n n,.slice (some ⟨g2,0,none⟩) n n,.slice (some ⟨g3,0,none⟩) n n,.slice (some ⟨g4,0,none⟩) n n,.slice (some ⟨g5,0,none⟩) n n,.slice (some ⟨g6,0,none⟩) n n,.slice (some ⟨g7,0,none⟩) n n,.slice (some ⟨g8,0,none⟩) n n,.slice none 0 0] 66 (0,0))):=by unfold Hid;rw[zAf KX.out];rfl
 have R1_8:Hid (RelAt (w8.setCell ⟨fb,8,none⟩ (.slice (some ⟨g8,0,none⟩) n n)) g1 n (Q.newR n)):=by have h1:=R1_7.out.below XB.out;exact⟨h1.at_.of_block (Below.heap_setCell _ _ _ _ (by simp;omega)),h1.len,h1.fits⟩
 have R2_8:Hid (RelAt (w8.setCell ⟨fb,8,none⟩ (.slice (some ⟨g8,0,none⟩) n n)) g2 n (Q.newR n)):=by have h1:=R2_7.out.below XB.out;exact⟨h1.at_.of_block (Below.heap_setCell _ _ _ _ (by simp;omega)),h1.len,h1.fits⟩
 have R3_8:Hid (RelAt (w8.setCell ⟨fb,8,none⟩ (.slice (some ⟨g8,0,none⟩) n n)) g3 n (Q.newR n)):=by have h1:=R3_7.out.below XB.out;exact⟨h1.at_.of_block (Below.heap_setCell _ _ _ _ (by simp;omega)),h1.len,h1.fits⟩
 have R4_8:Hid (RelAt (w8.setCell ⟨fb,8,none⟩ (.slice (some ⟨g8,0,none⟩) n n)) g4 n (Q.newR n)):=by have h1:=R4_7.out.below XB.out;exact⟨h1.at_.of_block (Below.heap_setCell _ _ _ _ (by simp;omega)),h1.len,h1.fits⟩
 have R5_8:Hid (RelAt (w8.setCell ⟨fb,8,none⟩ (.slice (some ⟨g8,0,none⟩) n n)) g5 n (Q.newR n)):=by have h1:=R5_7.out.below XB.out;exact⟨h1.at_.of_block (Below.heap_setCell _ _ _ _ (by simp;omega)),h1.len,h1.fits⟩
 have R6_8:Hid (RelAt (w8.setCell ⟨fb,8,none⟩ (.slice (some ⟨g8,0,none⟩) n n)) g6 n (Q.newR n)):=by have h1:=R6_7.out.below XB.out;exact⟨h1.at_.of_block (Below.heap_setCell _ _ _ _ (by simp;omega)),h1.len,h1.fits⟩
 have R7_8:Hid (RelAt (w8.setCell ⟨fb,8,none⟩ (.slice (some ⟨g8,0,none⟩) n n)) g7 n (Q.newR n)):=by have h1:=R7_7.out.below XB.out;exact⟨h1.at_.of_block (Below.heap_setCell _ _ _ _ (by simp;omega)),h1.len,h1.fits⟩
 have S8:Hid (RelAt (w8.setCell ⟨fb,8,none⟩ (.slice (some ⟨g8,0,none⟩) n n)) g8 n (Q.newR n)):=by have h1:=R8_8.out;exact⟨h1.at_.of_block (Below.heap_setCell _ _ _ _ (by simp;omega)),h1.len,h1.fits⟩
 have EV8:Hid (zAW (w8.setCell ⟨fb,8,none⟩ (.slice (some ⟨g8,0,none⟩) n n)) (.slice (some ⟨ge,0,none⟩) n n) es):=(EV7.out.below XB.out).keep2 (Below.heap_setCell _ _ _ _ (by simp;omega)) rfl
 have BB8:Hid (Below (w.heap.size+1) W0 (w8.setCell ⟨fb,8,none⟩ (.slice (some ⟨g8,0,none⟩) n n))):=(zAn BB7.out (by omega) XB.out).setCell (p:=⟨fb,8,none⟩) (by simp;omega) _
 have hsg8:g8<(w8.setCell ⟨fb,8,none⟩ (.slice (some ⟨g8,0,none⟩) n n)).heap.size:=S8.out.lt
 clear y0 y1 y2 y3 y4 y5 y6 y7 y8 y9 yf yl KX XB R8_8
 generalize hgen8:w8.setCell ⟨fb,8,none⟩ (.slice (some ⟨g8,0,none⟩) n n)=V8 at *
 clear hgen8
 have R8_8:=S8
 clear S8 KB7 EV7 BB7 R1_7 R2_7 R3_7 R4_7 R5_7 R6_7 R7_7
 obtain⟨y0,y1,y2,y3,y4,y5,y6,y7,y8,y9,yf,yl⟩:=zAM KB8.out
 go_upto_region 13 with (first | (go_at_call 72;refine (zBn n _ hn').mono ?_;rintro e w9 ⟨g9,rfl,hsn,hgn9,hll,hfn,hb⟩;have R9_9:=zAa (RelAt.mk hsn hll hfn);have KX:=zAa ((hb.block _ yl).trans KB8.out);have XB:=zAa hb;clear hsn hll hfn hb y0 y1 y2 y3 y4 y5 y6 y7 y8 y9 yf yl;obtain⟨y0,y1,y2,y3,y4,y5,y6,y7,y8,y9,yf,yl⟩:=zAM KX.out))
 have hfg9:fb<g9:=by have:=(Array.getElem?_eq_some_iff.1 KB8.out).1;omega
 have KB9:Hid ((w9.setCell ⟨fb,9,none⟩ (.slice (some ⟨g9,0,none⟩) n n)).heap[fb]?=some (.cells #[.slice (some ⟨ge,0,none⟩) n n,.slice (some ⟨g1,0,none⟩) n n,.slice (some ⟨g2,0,none⟩) n n,.slice (some ⟨g3,0,none⟩) n n,.slice (some ⟨g4,0,none⟩) n n,.slice (some ⟨g5,0,none⟩) n n,.slice (some ⟨g6,0,none⟩) n n,.slice (some ⟨g7,0,none⟩) n n,.slice (some ⟨g8,0,none⟩) n n,.slice (some ⟨g9,0,none⟩) n n] 66 (0,0))):=by unfold Hid;rw[zAf KX.out];rfl
 have R1_9:Hid (RelAt (w9.setCell ⟨fb,9,none⟩ (.slice (some ⟨g9,0,none⟩) n n)) g1 n (Q.newR n)):=by have h1:=R1_8.out.below XB.out;exact⟨h1.at_.of_block (Below.heap_setCell _ _ _ _ (by simp;omega)),h1.len,h1.fits⟩
 have R2_9:Hid (RelAt (w9.setCell ⟨fb,9,none⟩ (.slice (some ⟨g9,0,none⟩) n n)) g2 n (Q.newR n)):=by have h1:=R2_8.out.below XB.out;exact⟨h1.at_.of_block (Below.heap_setCell _ _ _ _ (by simp;omega)),h1.len,h1.fits⟩
 have R3_9:Hid (RelAt (w9.setCell ⟨fb,9,none⟩ (.slice (some ⟨g9,0,none⟩) n n)) g3 n (Q.newR n)):=by have h1:=R3_8.out.below XB.out;exact⟨h1.at_.of_block (Below.heap_setCell _ _ _ _ (by simp;omega)),h1.len,h1.fits⟩
 have R4_9:Hid (RelAt (w9.setCell ⟨fb,9,none⟩ (.slice (some ⟨g9,0,none⟩) n n)) g4 n (Q.newR n)):=by have h1:=R4_8.out.below XB.out;exact⟨h1.at_.of_block (Below.heap_setCell _ _ _ _ (by simp;omega)),h1.len,h1.fits⟩
 have R5_9:Hid (RelAt (w9.setCell ⟨fb,9,none⟩ (.slice (some ⟨g9,0,none⟩) n n)) g5 n (Q.newR n)):=by have h1:=R5_8.out.below XB.out;exact⟨h1.at_.of_block (Below.heap_setCell _ _ _ _ (by simp;omega)),h1.len,h1.fits⟩
 have R6_9:Hid (RelAt (w9.setCell ⟨fb,9,none⟩ (.slice (some ⟨g9,0,none⟩) n n)) g6 n (Q.newR n)):=by have h1:=R6_8.out.below XB.out;exact⟨h1.at_.of_block (Below.heap_setCell _ _ _ _ (by simp;omega)),h1.len,h1.fits⟩
 have R7_9:Hid (RelAt (w9.setCell ⟨fb,9,none⟩ (.slice (some ⟨g9,0,none⟩) n n)) g7 n (Q.newR n)):=by have h1:=R7_8.out.below XB.out;exact⟨h1.at_.of_block (Below.heap_setCell _ _ _ _ (by simp;omega)),h1.len,h1.fits⟩
 have R8_9:Hid (RelAt (w9.setCell ⟨fb,9,none⟩ (.slice (some ⟨g9,0,none⟩) n n)) g8 n (Q.newR n)):=by have h1:=R8_8.out.below XB.out;exact⟨h1.at_.of_block (Below.heap_setCell _ _ _ _ (by simp;omega)),h1.len,h1.fits⟩
 have S9:Hid (RelAt (w9.setCell ⟨fb,9,none⟩ (.slice (some ⟨g9,0,none⟩) n n)) g9 n (Q.newR n)):=by have h1:=R9_9.out;exact⟨h1.at_.of_block (Below.heap_setCell _ _ _ _ (by simp;omega)),h1.len,h1.fits⟩
 have EV9:Hid (zAW (w9.setCell ⟨fb,9,none⟩ (.slice (some ⟨g9,0,none⟩) n n)) (.slice (some ⟨ge,0,none⟩) n n) es):=(EV8.out.below XB.out).keep2 (Below.heap_setCell _ _ _ _ (by simp;omega)) rfl
 have BB9:Hid (Below (w.heap.size+1) W0 (w9.setCell ⟨fb,9,none⟩ (.slice (some ⟨g9,0,none⟩) n n))):=(zAn BB8.out (by omega) XB.out).setCell (p:=⟨fb,9,none⟩) (by simp;omega) _
 have hsg9:g9<(w9.setCell ⟨fb,9,none⟩ (.slice (some ⟨g9,0,none⟩) n n)).heap.size:=S9.out.lt
 clear y0 y1 y2 y3 y4 y5 y6 y7 y8 y9 yf yl KX XB R9_9
 generalize hgen9:w9.setCell ⟨fb,9,none⟩ (.slice (some ⟨g9,0,none⟩) n n)=V9 at *
 clear hgen9
 have R9_9:=S9
 clear S9 KB8 EV8 BB8 R1_8 R2_8 R3_8 R4_8 R5_8 R6_8 R7_8 R8_8
 have FM:Hid (FactsMem V9 fb (FA.mk n (.slice (some ⟨ge,0,none⟩) n n) g1 g2 g3 g4 g5 g6 g7 g8 g9) (Q.Facts.new es)):=by
  have hl:=HL.out
  have hnr:Q.newR es.length=Q.newR n:=by rw[hl]
  exact⟨KB9.out,⟨EV9.out,hl,hn',by rw[Q.Facts.new,hnr];exact R1_9.out,by rw[Q.Facts.new,hnr];exact R2_9.out,by rw[Q.Facts.new,hnr];exact R3_9.out,by rw[Q.Facts.new,hnr];exact R4_9.out,by rw[Q.Facts.new,hnr];exact R5_9.out,by rw[Q.Facts.new,hnr];exact R6_9.out,by rw[Q.Facts.new,hnr];exact R7_9.out,by rw[Q.Facts.new,hnr];exact R8_9.out,by rw[Q.Facts.new,hnr];exact R9_9.out⟩,by simp;omega⟩
 have hBg:∀ g∈[g1,g2,g3,g4,g5,g6,g7,g8,g9],w.heap.size+1≤g:=by simp;omega
 clear hfg1 hfg2 hfg3 hfg4 hfg5 hfg6 hfg7 hfg8 hfg9 hsg1 hsg2 hsg3 hsg4 hsg5 hsg6 hsg7 hsg8 hsg9 hgn1 hgn2 hgn3 hgn4 hgn5 hgn6 hgn7 hgn8 hgn9 R1_9 R2_9 R3_9 R4_9 R5_9 R6_9 R7_9 R8_9 R9_9 KB9 EV9 hea
 go_wp2
 go_loopw [47] (fun j wr=>∃ (k:Nat) (f:Q.Facts),k≤n∧j=.int .i64 k∧Hid (f=(List.range k).foldl (Q.zJe es) (Q.Facts.new es))∧Hid (FactsMem wr fb (FA.mk n (.slice (some ⟨ge,0,none⟩) n n) g1 g2 g3 g4 g5 g6 g7 g8 g9) f)∧Hid (Below (w.heap.size+1) W0 wr)) (fun j _=>n-(intOf j).toNat)
 case atStart=>exact⟨0,_,Nat.zero_le _,rfl,rfl,FM,BB9⟩
 case round =>
  obtain⟨k,f,hk,rfl,HT,HI,HBL⟩:=hrel
  by_cases hlt:k<n
  ·have hin:(k:Int)<(n:Int):=by omega
   have hkl:k<es.length:=by rw[HL.out];exact hlt
   have HR1:Hid (wr.rangeAt be (k*10) (zAb (Q.ev es k)).toList):=zAz (HEW.out.range' HL.out.symm k hkl) ((HBL.out.block be (by omega)).trans (BW0.out.block be hbe))
   have HH1:=HOK.out.ev k hkl
   have HTS:Hid ((List.range (k+1)).foldl (Q.zJe es) (Q.Facts.new es)=(List.range n).foldl (fun f q=>f.pair k (Q.ev es k) q (Q.ev es q)) f):=by unfold Hid;rw[Q.zIm,← HT.out];exact HFR.out f k
   have lbe:be<wr.heap.size:=by have:=HBL.out.size;omega
   generalize Q.ev es k=e1 at *
   have HA1:Hid (zAQ (wr.alloc (.cells (zAb e1) 129)) wr.heap.size e1):=zAQ.new wr e1
   have FM1:=zAa (HI.out.below ((Below.refl _ _).alloc (Nat.le_refl _) (.cells (zAb e1) 129)))
   have BX1:Hid (Below (w.heap.size+1) W0 (wr.alloc (.cells (zAb e1) 129))):=HBL.out.alloc (by have:=HBL.out.size;omega) _
   go_wp2_with (first | (refine zAg (.tmp 50) rfl rfl be (k*10) e1 rfl HR1.out ?_))
   go_loopw [54] (fun j wq=>∃ (q:Nat) (u:Q.Facts),q≤n∧j=.int .i64 q∧Hid (u=(List.range q).foldl (fun f q=>f.pair k e1 q (Q.ev es q)) f)∧Hid (FactsMem wq fb (FA.mk n (.slice (some ⟨ge,0,none⟩) n n) g1 g2 g3 g4 g5 g6 g7 g8 g9) u)∧Hid (Below (w.heap.size+1) W0 wq)∧Hid (zAQ wq wr.heap.size e1)) (fun j _=>n-(intOf j).toNat)
   case atStart=>exact⟨0,f,Nat.zero_le _,rfl,rfl,FM1,BX1,HA1⟩
   case round =>
    clear HA1 FM1 BX1 HR1 lbe
    obtain⟨q,u,hq,rfl,HU,HJ,HBQ,HA⟩:=hrel
    by_cases hql:q<n
    ·have hqi:(q:Int)<(n:Int):=by omega
     have hqe:q<es.length:=by rw[HL.out];exact hql
     have HR2:Hid (wr.rangeAt be (q*10) (zAb (Q.ev es q)).toList):=zAz (HEW.out.range' HL.out.symm q hqe) ((HBQ.out.block be (by omega)).trans (BW0.out.block be hbe))
     have HUS:Hid ((List.range (q+1)).foldl (fun f q=>f.pair k e1 q (Q.ev es q)) f=u.pair k e1 q (Q.ev es q)):=by unfold Hid;rw[Q.zIm,← HU.out]
     have lbe:be<wr.heap.size:=by have:=HBQ.out.size;omega
     generalize Q.ev es q=e2 at *
     have FM2:=zAa (HJ.out.below ((Below.refl _ _).alloc (Nat.le_refl _) (.cells (zAb e2) 129)))
     have HA2:=zAa (HA.out.alloc (.cells (zAb e2) 129))
     have HA3:=zAa (zAQ.new wr e2)
     have BX2:Hid (Below (w.heap.size+1) W0 (wr.alloc (.cells (zAb e2) 129))):=HBQ.out.alloc (by have:=HBQ.out.size;omega) _
     have hBs:w.heap.size+1≤(wr.alloc (.cells (zAb e2) 129)).heap.size:=by have:=BX2.out.size;omega
     obtain⟨x0,x1,x2,x3,x4,x5,x6,x7,x8,x9,xf,xl⟩:=HA2.out.facts
     obtain⟨y0,y1,y2,y3,y4,y5,y6,y7,y8,y9,yf,yl⟩:=HA3.out.facts
     simp only[zAb] at x0 x1 x2 x3 x4 x5 x6 x7 x8 x9 xf xl y0 y1 y2 y3 y4 y5 y6 y7 y8 y9 yf yl
     go_wp2_with (first | (refine zAg (.tmp 57) rfl rfl be (q*10) e2 rfl HR2.out ?_) | (go_at_call 105;refine (zHj (w.heap.size+1) fb (FA.mk n (.slice (some ⟨ge,0,none⟩) n n) g1 g2 g3 g4 g5 g6 g7 g8 g9) u k q e1 e2 _ FM2.out hBs hBg HH1 (by omega) (by omega)).mono ?_;rintro e wc ⟨rfl,hm,hbp,hev⟩;have HM3:=zAa hm;have BX3:=zAa (BX2.out.trans hbp);have HA4:=zAa (hev _ _ HA2.out);clear hm hbp hev))
     go_roundw
     case rel=>exact⟨q+1,_,by omega,by go_num,HUS.out.symm,HM3,BX3,HA4⟩
     case measure=>simp[intOf];omega
    ·have HN2:Hid (u=(List.range (k+1)).foldl (Q.zJe es) (Q.Facts.new es)):=by unfold Hid;rw[HTS.out,HU.out,show q=n by omega]
     go_wp2
     go_roundw
     case rel=>exact⟨k+1,u,by omega,by go_num,HN2,HJ,HBQ⟩
     case measure=>simp[intOf];omega
  ·have hkn:k=n:=by omega
   have HE2:Hid (f=Q.zIx es):=by unfold Hid;rw[HFE.out,HT.out,hkn]
   have hbx:=HI.out.box
   simp only[zAl] at hbx
   obtain⟨y0,y1,y2,y3,y4,y5,y6,y7,y8,y9,yf,yl⟩:=zAM hbx
   have KR:=zAa ((HBL.out.block _ (by omega)).trans K0.out)
   obtain⟨z0,z1,z2,z3,z4,z5,z6,z7,z8,z9,zf,zl⟩:=zAM KR.out
   have HBX:=zAa hbx
   clear hbx
   go_wp2
   obtain⟨t0,t1,t2⟩:=zBB [.slice (some ⟨ge,0,none⟩) n n,.slice (some ⟨g1,0,none⟩) n n,.slice (some ⟨g2,0,none⟩) n n,.slice (some ⟨g3,0,none⟩) n n,.slice (some ⟨g4,0,none⟩) n n,.slice (some ⟨g5,0,none⟩) n n,.slice (some ⟨g6,0,none⟩) n n,.slice (some ⟨g7,0,none⟩) n n,.slice (some ⟨g8,0,none⟩) n n,.slice (some ⟨g9,0,none⟩) n n] KR.out rfl
   refine zBd (p:=2) w.heap.size _ (by kernel_rfl) Tryz.underlying66 rfl (by kernel_rfl) rfl (by exact t0) rfl ⟨(FA.mk n (.slice (some ⟨ge,0,none⟩) n n) g1 g2 g3 g4 g5 g6 g7 g8 g9),rfl,HL.out.symm,?_,?_⟩
   ·rw[← HE2.out];exact HI.out.fin.frame KR.out t1
   ·exact t2 _ _ (Nat.le_refl _) (BW0.out.trans (HBL.out.mono (by omega)))
end Go.Proofs.YtkmebkbpfmoeaaaGreat
