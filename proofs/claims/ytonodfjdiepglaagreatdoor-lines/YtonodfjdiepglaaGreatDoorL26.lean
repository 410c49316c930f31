import Derived.Test.YtonodfjdiepglaaGreatDoorL25
import Derived.Test.YtonodfjdiepglaaGreatDoorL23
set_option linter.unusedVariables false
set_option linter.unusedSimpArgs false
set_option maxHeartbeats 12800000
namespace Go.Proofs.YtonodfjdiepglaaGreatDoor
open Go Go.RowKit Go.Proofs.Tryz P Q R
set_option maxRecDepth 1000000
variable {w w':World}
open Go.RowKit.Below renaming heap_setCell→xF,heap_alloc→xa,refl→xd
open List renaming range→xR
open Nat renaming le_refl→xW,zero_le→xc
open Go.Value renaming ownBlock→xb
theorem Tryz.infoEv:(prog.info? 146).map (fun i=>(i.zero,i.size,i.bytes))=some (some (.agg (aI Ev.zero)),10,80):=by kernel_rfl
theorem zHu (n:Nat):(madeCells (aI Ev.zero) (n*10)).size=n*10:=by simp[madeCells]
theorem zAV.eO {g n c:Nat} {es:List Ev} (h:zAV w (.slice (some ⟨g,0,none⟩) n c) es) (e:w'.heap[g]?=w.heap[g]?) (_:True=True):zAV w' (.slice (some ⟨g,0,none⟩) n c) es:=aX h (fun k a=>by simp[xb] at a;subst a;exact e)
namespace Q
def kEO (es:List Ev):Prop:=∀ e∈es,e.Ef<M64
theorem kEO.ev {es:List Ev} (h:kEO es) (k:Nat) (a:k<es.length):(ev es k).Ef<M64:=by rw[tE es k a];exact h _ (List.getElem_mem a)
end Q
theorem Ej.frame {a:FA} {f:EE} {r:Nat} {c:Array Value} (h:Ej w a f) (o:w.heap[r]?=some (.cells c 75 (0,0))) (m:∀ k,k≠r->w'.heap[k]?=w.heap[k]?):Ej w' a f:=by
 have R:∀ {g:Nat} {l:List Nat},Eh w g a.n l->Eh w' g a.n l:=fun b=>⟨b.at_.aA (m _ (fun e=>by have:=AZ b.at_ o (by decide);exact this e.symm)),b.len,b.fits⟩
 refine⟨aX h.ev (fun k e=>m k ?_),h.len,h.n64,R h.r1,R h.r2,R h.r3,R h.r4,R h.r5,R h.r6,R h.r7,R h.r8,R h.r9⟩;intro i;subst i
 rcases h.ev.2 with ⟨d,_⟩ | ⟨s,p,q,d,_,j,_⟩
 ·rw[d] at e;simp[xb] at e
 ·rw[d] at e;simp[xb] at e;subst e;rw[o] at j;simp at j
theorem zEA (v:Value) (es:List Ev) (w:World) (he:zAV w v es) (cG:0<es.length) (hn:es.length<=64) (cF:kEO es) :
  Calls prog 72 #[v] w fun e w'=>∃ a,e=.returned (.agg (zAn a))/\a.n=es.length/\Ej w' a (zMv es)/\Below w.heap.size w w':=by
 obtain⟨ea,n,ec,hl,rfl,cj⟩:∃ ea n ec,es.length=n/\v=.slice ea n ec/\(0<n->∃ b,ea=some ⟨b,0,none⟩/\b<w.heap.size):=by
  obtain⟨a,c,d,h2⟩:=he.form;exact⟨a,_,c,rfl,d,h2⟩
 obtain⟨be,rfl,ch⟩:=cj (by omega);obtain⟨iz,hi,cT,bD,cU⟩:=info_parts Tryz.infoEv;have dr:∀ w,(Instr.makeSlice 67 (.int .i64 (n:Int)) (.int .i64 (n:Int))).run prog w=.ok (.slice (some ⟨w.heap.size,0,none⟩) n n) (w.alloc (.cells (madeCells (aI Ev.zero) (n*10)) 146)):=fun w=>by
  have h:=run_makeSlice (P:=prog) w 67 146 iz (.agg (aI Ev.zero)) underlying67 hi cT .i64 .i64 (n:Int) (n:Int) (by omega) (Int.le_refl _) (by rw[bD];simp;omega) (by rw[cU];omega) (by omega);rw[bD] at h;have e:(Value.agg (aI Ev.zero)).cells=aI Ev.zero:=rfl;rw[e] at h;simpa using h
 have dd:Hid (zMv es=(xR n).foldl (mN es) (EE.bT es)):=by unfold Hid zMv;rw[hl]
 have de:Hid (∀ f k,mN es f k=(xR n).foldl (fun f q=>f.gG k (ev es k) q (ev es q)) f):=fun f k=>by unfold mN;rw[hl]
 obtain⟨k0,dv,br⟩:=jE w #[.slice none 0 0,.slice none 0 0,.slice none 0 0,.slice none 0 0,.slice none 0 0,.slice none 0 0,.slice none 0 0,.slice none 0 0,.slice none 0 0,.slice none 0 0] 75;have bo:=zAa br;have db:=zAa (he.below br);have bm:be<(w.alloc (.cells #[.slice none 0 0,.slice none 0 0,.slice none 0 0,.slice none 0 0,.slice none 0 0,.slice none 0 0,.slice none 0 0,.slice none 0 0,.slice none 0 0,.slice none 0 0] 75)).heap.size:=by omega
 have HL:=zAa hl;have ce:=zAa he;have di:=zAa cF;have X:n<=64:=by omega
 have ds:0<n:=by omega
 clear br he hl hn cG cF;go_enter func72,ntmps72;go_upto_region 2 with fail
 generalize hE:w.alloc (.cells #[.slice none 0 0,.slice none 0 0,.slice none 0 0,.slice none 0 0,.slice none 0 0,.slice none 0 0,.slice none 0 0,.slice none 0 0,.slice none 0 0,.slice none 0 0] 75)=t at *;have l0:w.heap.size<t.heap.size:=by omega
 have cS:w.heap.size+1<=t.heap.size:=by omega
 have K0:=zAa k0;clear hE dv k0;have bs:(Builtin.copy_ #[67,67] 3 #[.slice (some ⟨t.heap.size,0,none⟩) n n,.slice (some ⟨be,0,none⟩) n ec]).run prog ((t.alloc (.cells (madeCells (aI Ev.zero) (n*10)) 146)).alloc (.cells #[.slice (some ⟨t.heap.size,0,none⟩) n n,.slice none 0 0,.slice none 0 0,.slice none 0 0,.slice none 0 0,.slice none 0 0,.slice none 0 0,.slice none 0 0,.slice none 0 0,.slice none 0 0] 75))=.ok (goInt (Nat.min n n)) (((t.alloc (.cells (madeCells (aI Ev.zero) (n*10)) 146)).alloc (.cells #[.slice (some ⟨t.heap.size,0,none⟩) n n,.slice none 0 0,.slice none 0 0,.slice none 0 0,.slice none 0 0,.slice none 0 0,.slice none 0 0,.slice none 0 0,.slice none 0 0,.slice none 0 0] 75)).setCells t.heap.size 0 (zAG es)):=by
  have ai:((t.alloc (.cells (madeCells (aI Ev.zero) (n*10)) 146)).alloc (.cells #[.slice (some ⟨t.heap.size,0,none⟩) n n,.slice none 0 0,.slice none 0 0,.slice none 0 0,.slice none 0 0,.slice none 0 0,.slice none 0 0,.slice none 0 0,.slice none 0 0,.slice none 0 0] 75)).heap[t.heap.size]?=some (.cells (madeCells (aI Ev.zero) (n*10)) 146 (0,0)):=by
   rw[xa _ _ _ (by simp)];exact heap_alloc_new t _
  refine zFn _ _ _ _ 146 _ _ _ _ _ _ _ 10 _ underlying67 (by kernel_rfl) (by rw[kP,HL.out];simp) ?_ ?_ ?_ (zEm es)
  ·intro j u hu;have hj:j<n*10:=by have d:=(List.getElem?_eq_some_iff.1 hu).1;rw[kP,HL.out] at d;exact d
   have ea:(⟨be,0,none⟩:Addr).add j=⟨be,j,none⟩:=by unfold Addr.add;split<;>simp_all
   have h2:t.cell? ⟨be,j,none⟩=(zAG es)[j]?:=by
    have h3:=db.out;unfold zAV at h3;rw[HL.out] at h3;exact h3.cellAt j hj
   rw[ea,<- hu,<- h2];simp only[World.cell?];rw[xa _ _ _ (by simp;omega),xa _ _ _ bm]
  ·intro j hj;rw[kP,HL.out] at hj;have d:j<(madeCells (aI Ev.zero) (n*10)).size:=by rw[zHu];exact hj
   simp only[World.cell?,ai,Nat.zero_add];simp[d]
  ·intro j hj;simp only[World.frozen?,ai];simp
 have cE:Nat.min n n=n:=Nat.min_self n;rw[cE] at bs;have H1:Hid (∃ W1:World,W1=((t.alloc (.cells (madeCells (aI Ev.zero) (n*10)) 146)).alloc (.cells #[.slice (some ⟨t.heap.size,0,none⟩) n n,.slice none 0 0,.slice none 0 0,.slice none 0 0,.slice none 0 0,.slice none 0 0,.slice none 0 0,.slice none 0 0,.slice none 0 0,.slice none 0 0] 75)).setCells t.heap.size 0 (zAG es)/\W1.heap[t.heap.size+1]?=some (.cells #[.slice (some ⟨t.heap.size,0,none⟩) n n,.slice none 0 0,.slice none 0 0,.slice none 0 0,.slice none 0 0,.slice none 0 0,.slice none 0 0,.slice none 0 0,.slice none 0 0,.slice none 0 0] 75 (0,0))/\zAV W1 (.slice (some ⟨t.heap.size,0,none⟩) n n) es/\Below t.heap.size t W1/\t.heap.size+2<=W1.heap.size):=by
  refine⟨_,rfl,?_,?_,?_,?_⟩
  ·rw[vP _ _ _ _ _ (by omega)];have:=heap_alloc_new (t.alloc (.cells (madeCells (aI Ev.zero) (n*10)) 146)) (.cells #[.slice (some ⟨t.heap.size,0,none⟩) n n,.slice none 0 0,.slice none 0 0,.slice none 0 0,.slice none 0 0,.slice none 0 0,.slice none 0 0,.slice none 0 0,.slice none 0 0,.slice none 0 0] 75);simpa using this
  ·have ai:((t.alloc (.cells (madeCells (aI Ev.zero) (n*10)) 146)).alloc (.cells #[.slice (some ⟨t.heap.size,0,none⟩) n n,.slice none 0 0,.slice none 0 0,.slice none 0 0,.slice none 0 0,.slice none 0 0,.slice none 0 0,.slice none 0 0,.slice none 0 0,.slice none 0 0] 75)).heap[t.heap.size]?=some (.cells ((madeCells (aI Ev.zero) (n*10)).toList.toArray) 146 (0,0)):=by
    rw[xa _ _ _ (by simp)];simpa using heap_alloc_new t (.cells (madeCells (aI Ev.zero) (n*10)) 146)
   have d:=sE t.heap.size 146 (0,0) (zAG es) _ 0 _ ai;have h2:=BZ (zAG es) [] (madeCells (aI Ev.zero) (n*10)).toList (by rw[kP,HL.out,Array.length_toList,zHu]);simp only[List.nil_append,List.length_nil] at h2;rw[h2] at d;refine⟨by rw[kP],Or.inr ⟨t.heap.size,n,(zAG es).toArray,by rw[HL.out],xc _,d,by rw[HL.out];exact xW _,by unfold maxLen;omega,by simp[kP,HL.out],by simp only[List.toList_toArray];exact List.take_of_length_le (by rw[kP];exact xW _)⟩⟩
  ·exact Below.setCells (xW _) _ _ _ (((xd _ _).alloc (xW _) _).alloc (by simp) _)
  ·rw[mY];simp
 obtain⟨W1,bp,kb,bn,bq,du⟩:=H1.out;clear H1;rw[<- bp] at bs;go_upto_region 4 with fail
 (try rw[<- bp])
 have bE:Hid (Below (w.heap.size+1) t W1):=bq.mono cS;generalize dy:t.heap.size=V at *;generalize dp:V+1=i at *;have dz:V<i:=by omega
 have bQ:=zAa bn;have al:=zAa kb;have dx:=zAa bq;clear kb bn bq du bs bp dr hi cT bD cU bm dp;obtain⟨x,y,z,A,B,C,D,E,F,G,H,s⟩:=gH al.out;go_upto_region 5 with (first | (go_at_call 74;refine (iT n _ X).mono ?_;rintro e w1 ⟨K,rfl,r,cu,o,m,J⟩;have Z:=zAa (Eh.mk r o m);have I:=zAa ((J.block _ s).trans al.out);have l:=zAa J;clear r o m J x y z A B C D E F G H s;obtain⟨x,y,z,A,B,C,D,E,F,G,H,s⟩:=gH I.out))
 have cl:i<K:=by have:=(Array.getElem?_eq_some_iff.1 al.out).1;omega
 have am:Hid ((w1.setCell ⟨i,1,none⟩ (.slice (some ⟨K,0,none⟩) n n)).heap[i]?=some (.cells #[.slice (some ⟨V,0,none⟩) n n,.slice (some ⟨K,0,none⟩) n n,.slice none 0 0,.slice none 0 0,.slice none 0 0,.slice none 0 0,.slice none 0 0,.slice none 0 0,.slice none 0 0,.slice none 0 0] 75 (0,0))):=by unfold Hid;rw[bH I.out];rfl
 have S1:Hid (Eh (w1.setCell ⟨i,1,none⟩ (.slice (some ⟨K,0,none⟩) n n)) K n (aS n)):=by have d:=Z.out;exact⟨d.at_.aA (xF _ _ _ _ (by simp;omega)),d.len,d.fits⟩
 have bR:Hid (zAV (w1.setCell ⟨i,1,none⟩ (.slice (some ⟨K,0,none⟩) n n)) (.slice (some ⟨V,0,none⟩) n n) es):=(bQ.out.below l.out).eO (xF _ _ _ _ (by simp;omega)) rfl;have bF:Hid (Below (w.heap.size+1) t (w1.setCell ⟨i,1,none⟩ (.slice (some ⟨K,0,none⟩) n n))):=(aK bE.out (by omega) l.out).setCell (p:=⟨i,1,none⟩) (by simp;omega) _;have cH:K<(w1.setCell ⟨i,1,none⟩ (.slice (some ⟨K,0,none⟩) n n)).heap.size:=S1.out.lt;clear x y z A B C D E F G H s I l Z;generalize bt:w1.setCell ⟨i,1,none⟩ (.slice (some ⟨K,0,none⟩) n n)=V1 at *;clear bt;have Z:=S1;clear S1 al bQ bE;obtain⟨x,y,z,A,B,C,D,E,F,G,H,s⟩:=gH am.out;go_upto_region 6 with (first | (go_at_call 74;refine (iT n _ X).mono ?_;rintro e w2 ⟨L,rfl,r,cv,o,m,J⟩;have aa:=zAa (Eh.mk r o m);have I:=zAa ((J.block _ s).trans am.out);have l:=zAa J;clear r o m J x y z A B C D E F G H s;obtain⟨x,y,z,A,B,C,D,E,F,G,H,s⟩:=gH I.out))
 have cm:i<L:=by have:=(Array.getElem?_eq_some_iff.1 am.out).1;omega
 have an:Hid ((w2.setCell ⟨i,2,none⟩ (.slice (some ⟨L,0,none⟩) n n)).heap[i]?=some (.cells #[.slice (some ⟨V,0,none⟩) n n,.slice (some ⟨K,0,none⟩) n n,.slice (some ⟨L,0,none⟩) n n,.slice none 0 0,.slice none 0 0,.slice none 0 0,.slice none 0 0,.slice none 0 0,.slice none 0 0,.slice none 0 0] 75 (0,0))):=by unfold Hid;rw[bH I.out];rfl
 have ax:Hid (Eh (w2.setCell ⟨i,2,none⟩ (.slice (some ⟨L,0,none⟩) n n)) K n (aS n)):=by have d:=Z.out.below l.out;exact⟨d.at_.aA (xF _ _ _ _ (by simp;omega)),d.len,d.fits⟩
 have S2:Hid (Eh (w2.setCell ⟨i,2,none⟩ (.slice (some ⟨L,0,none⟩) n n)) L n (aS n)):=by have d:=aa.out;exact⟨d.at_.aA (xF _ _ _ _ (by simp;omega)),d.len,d.fits⟩
 have bS:Hid (zAV (w2.setCell ⟨i,2,none⟩ (.slice (some ⟨L,0,none⟩) n n)) (.slice (some ⟨V,0,none⟩) n n) es):=(bR.out.below l.out).eO (xF _ _ _ _ (by simp;omega)) rfl;have bG:Hid (Below (w.heap.size+1) t (w2.setCell ⟨i,2,none⟩ (.slice (some ⟨L,0,none⟩) n n))):=(aK bF.out (by omega) l.out).setCell (p:=⟨i,2,none⟩) (by simp;omega) _;have cI:L<(w2.setCell ⟨i,2,none⟩ (.slice (some ⟨L,0,none⟩) n n)).heap.size:=S2.out.lt;clear x y z A B C D E F G H s I l aa;generalize bu:w2.setCell ⟨i,2,none⟩ (.slice (some ⟨L,0,none⟩) n n)=V2 at *;clear bu;have aa:=S2;clear S2 am bR bF Z;obtain⟨x,y,z,A,B,C,D,E,F,G,H,s⟩:=gH an.out;go_upto_region 7 with (first | (go_at_call 74;refine (iT n _ X).mono ?_;rintro e w3 ⟨M,rfl,r,cw,o,m,J⟩;have ab:=zAa (Eh.mk r o m);have I:=zAa ((J.block _ s).trans an.out);have l:=zAa J;clear r o m J x y z A B C D E F G H s;obtain⟨x,y,z,A,B,C,D,E,F,G,H,s⟩:=gH I.out))
 have cn:i<M:=by have:=(Array.getElem?_eq_some_iff.1 an.out).1;omega
 have ao:Hid ((w3.setCell ⟨i,3,none⟩ (.slice (some ⟨M,0,none⟩) n n)).heap[i]?=some (.cells #[.slice (some ⟨V,0,none⟩) n n,.slice (some ⟨K,0,none⟩) n n,.slice (some ⟨L,0,none⟩) n n,.slice (some ⟨M,0,none⟩) n n,.slice none 0 0,.slice none 0 0,.slice none 0 0,.slice none 0 0,.slice none 0 0,.slice none 0 0] 75 (0,0))):=by unfold Hid;rw[bH I.out];rfl
 have ay:Hid (Eh (w3.setCell ⟨i,3,none⟩ (.slice (some ⟨M,0,none⟩) n n)) K n (aS n)):=by have d:=ax.out.below l.out;exact⟨d.at_.aA (xF _ _ _ _ (by simp;omega)),d.len,d.fits⟩
 have aG:Hid (Eh (w3.setCell ⟨i,3,none⟩ (.slice (some ⟨M,0,none⟩) n n)) L n (aS n)):=by have d:=aa.out.below l.out;exact⟨d.at_.aA (xF _ _ _ _ (by simp;omega)),d.len,d.fits⟩
 have S3:Hid (Eh (w3.setCell ⟨i,3,none⟩ (.slice (some ⟨M,0,none⟩) n n)) M n (aS n)):=by have d:=ab.out;exact⟨d.at_.aA (xF _ _ _ _ (by simp;omega)),d.len,d.fits⟩
 have bU:Hid (zAV (w3.setCell ⟨i,3,none⟩ (.slice (some ⟨M,0,none⟩) n n)) (.slice (some ⟨V,0,none⟩) n n) es):=(bS.out.below l.out).eO (xF _ _ _ _ (by simp;omega)) rfl;have bI:Hid (Below (w.heap.size+1) t (w3.setCell ⟨i,3,none⟩ (.slice (some ⟨M,0,none⟩) n n))):=(aK bG.out (by omega) l.out).setCell (p:=⟨i,3,none⟩) (by simp;omega) _;have cJ:M<(w3.setCell ⟨i,3,none⟩ (.slice (some ⟨M,0,none⟩) n n)).heap.size:=S3.out.lt;clear x y z A B C D E F G H s I l ab;generalize bv:w3.setCell ⟨i,3,none⟩ (.slice (some ⟨M,0,none⟩) n n)=V3 at *;clear bv;have ab:=S3;clear S3 an bS bG ax aa;obtain⟨x,y,z,A,B,C,D,E,F,G,H,s⟩:=gH ao.out;go_upto_region 8 with (first | (go_at_call 74;refine (iT n _ X).mono ?_;rintro e w4 ⟨N,rfl,r,cx,o,m,J⟩;have ac:=zAa (Eh.mk r o m);have I:=zAa ((J.block _ s).trans ao.out);have l:=zAa J;clear r o m J x y z A B C D E F G H s;obtain⟨x,y,z,A,B,C,D,E,F,G,H,s⟩:=gH I.out))
 have co:i<N:=by have:=(Array.getElem?_eq_some_iff.1 ao.out).1;omega
 have ap:Hid ((w4.setCell ⟨i,4,none⟩ (.slice (some ⟨N,0,none⟩) n n)).heap[i]?=some (.cells #[.slice (some ⟨V,0,none⟩) n n,.slice (some ⟨K,0,none⟩) n n,.slice (some ⟨L,0,none⟩) n n,.slice (some ⟨M,0,none⟩) n n,.slice (some ⟨N,0,none⟩) n n,.slice none 0 0,.slice none 0 0,.slice none 0 0,.slice none 0 0,.slice none 0 0] 75 (0,0))):=by unfold Hid;rw[bH I.out];rfl
 have az:Hid (Eh (w4.setCell ⟨i,4,none⟩ (.slice (some ⟨N,0,none⟩) n n)) K n (aS n)):=by have d:=ay.out.below l.out;exact⟨d.at_.aA (xF _ _ _ _ (by simp;omega)),d.len,d.fits⟩
 have aH:Hid (Eh (w4.setCell ⟨i,4,none⟩ (.slice (some ⟨N,0,none⟩) n n)) L n (aS n)):=by have d:=aG.out.below l.out;exact⟨d.at_.aA (xF _ _ _ _ (by simp;omega)),d.len,d.fits⟩
 have aP:Hid (Eh (w4.setCell ⟨i,4,none⟩ (.slice (some ⟨N,0,none⟩) n n)) M n (aS n)):=by have d:=ab.out.below l.out;exact⟨d.at_.aA (xF _ _ _ _ (by simp;omega)),d.len,d.fits⟩
 have S4:Hid (Eh (w4.setCell ⟨i,4,none⟩ (.slice (some ⟨N,0,none⟩) n n)) N n (aS n)):=by have d:=ac.out;exact⟨d.at_.aA (xF _ _ _ _ (by simp;omega)),d.len,d.fits⟩
 have bV:Hid (zAV (w4.setCell ⟨i,4,none⟩ (.slice (some ⟨N,0,none⟩) n n)) (.slice (some ⟨V,0,none⟩) n n) es):=(bU.out.below l.out).eO (xF _ _ _ _ (by simp;omega)) rfl;have bJ:Hid (Below (w.heap.size+1) t (w4.setCell ⟨i,4,none⟩ (.slice (some ⟨N,0,none⟩) n n))):=(aK bI.out (by omega) l.out).setCell (p:=⟨i,4,none⟩) (by simp;omega) _;have cK:N<(w4.setCell ⟨i,4,none⟩ (.slice (some ⟨N,0,none⟩) n n)).heap.size:=S4.out.lt;clear x y z A B C D E F G H s I l ac;generalize bw:w4.setCell ⟨i,4,none⟩ (.slice (some ⟨N,0,none⟩) n n)=V4 at *;clear bw;have ac:=S4;clear S4 ao bU bI ay aG ab;obtain⟨x,y,z,A,B,C,D,E,F,G,H,s⟩:=gH ap.out;go_upto_region 9 with (first | (go_at_call 74;refine (iT n _ X).mono ?_;rintro e w5 ⟨O,rfl,r,cy,o,m,J⟩;have ad:=zAa (Eh.mk r o m);have I:=zAa ((J.block _ s).trans ap.out);have l:=zAa J;clear r o m J x y z A B C D E F G H s;obtain⟨x,y,z,A,B,C,D,E,F,G,H,s⟩:=gH I.out))
 have cp:i<O:=by have:=(Array.getElem?_eq_some_iff.1 ap.out).1;omega
 have aq:Hid ((w5.setCell ⟨i,5,none⟩ (.slice (some ⟨O,0,none⟩) n n)).heap[i]?=some (.cells #[.slice (some ⟨V,0,none⟩) n n,.slice (some ⟨K,0,none⟩) n n,.slice (some ⟨L,0,none⟩) n n,.slice (some ⟨M,0,none⟩) n n,.slice (some ⟨N,0,none⟩) n n,.slice (some ⟨O,0,none⟩) n n,.slice none 0 0,.slice none 0 0,.slice none 0 0,.slice none 0 0] 75 (0,0))):=by unfold Hid;rw[bH I.out];rfl
 have aB:Hid (Eh (w5.setCell ⟨i,5,none⟩ (.slice (some ⟨O,0,none⟩) n n)) K n (aS n)):=by have d:=az.out.below l.out;exact⟨d.at_.aA (xF _ _ _ _ (by simp;omega)),d.len,d.fits⟩
 have aJ:Hid (Eh (w5.setCell ⟨i,5,none⟩ (.slice (some ⟨O,0,none⟩) n n)) L n (aS n)):=by have d:=aH.out.below l.out;exact⟨d.at_.aA (xF _ _ _ _ (by simp;omega)),d.len,d.fits⟩
 have aQ:Hid (Eh (w5.setCell ⟨i,5,none⟩ (.slice (some ⟨O,0,none⟩) n n)) M n (aS n)):=by have d:=aP.out.below l.out;exact⟨d.at_.aA (xF _ _ _ _ (by simp;omega)),d.len,d.fits⟩
 have aW:Hid (Eh (w5.setCell ⟨i,5,none⟩ (.slice (some ⟨O,0,none⟩) n n)) N n (aS n)):=by have d:=ac.out.below l.out;exact⟨d.at_.aA (xF _ _ _ _ (by simp;omega)),d.len,d.fits⟩
 have S5:Hid (Eh (w5.setCell ⟨i,5,none⟩ (.slice (some ⟨O,0,none⟩) n n)) O n (aS n)):=by have d:=ad.out;exact⟨d.at_.aA (xF _ _ _ _ (by simp;omega)),d.len,d.fits⟩
 have bW:Hid (zAV (w5.setCell ⟨i,5,none⟩ (.slice (some ⟨O,0,none⟩) n n)) (.slice (some ⟨V,0,none⟩) n n) es):=(bV.out.below l.out).eO (xF _ _ _ _ (by simp;omega)) rfl;have bK:Hid (Below (w.heap.size+1) t (w5.setCell ⟨i,5,none⟩ (.slice (some ⟨O,0,none⟩) n n))):=(aK bJ.out (by omega) l.out).setCell (p:=⟨i,5,none⟩) (by simp;omega) _;have cL:O<(w5.setCell ⟨i,5,none⟩ (.slice (some ⟨O,0,none⟩) n n)).heap.size:=S5.out.lt;clear x y z A B C D E F G H s I l ad;generalize bx:w5.setCell ⟨i,5,none⟩ (.slice (some ⟨O,0,none⟩) n n)=V5 at *;clear bx;have ad:=S5;clear S5 ap bV bJ az aH aP ac;obtain⟨x,y,z,A,B,C,D,E,F,G,H,s⟩:=gH aq.out;go_upto_region 10 with (first | (go_at_call 74;refine (iT n _ X).mono ?_;rintro e w6 ⟨S,rfl,r,cz,o,m,J⟩;have ae:=zAa (Eh.mk r o m);have I:=zAa ((J.block _ s).trans aq.out);have l:=zAa J;clear r o m J x y z A B C D E F G H s;obtain⟨x,y,z,A,B,C,D,E,F,G,H,s⟩:=gH I.out))
 have cq:i<S:=by have:=(Array.getElem?_eq_some_iff.1 aq.out).1;omega
 have ar:Hid ((w6.setCell ⟨i,6,none⟩ (.slice (some ⟨S,0,none⟩) n n)).heap[i]?=some (.cells #[.slice (some ⟨V,0,none⟩) n n,.slice (some ⟨K,0,none⟩) n n,.slice (some ⟨L,0,none⟩) n n,.slice (some ⟨M,0,none⟩) n n,.slice (some ⟨N,0,none⟩) n n,.slice (some ⟨O,0,none⟩) n n,.slice (some ⟨S,0,none⟩) n n,.slice none 0 0,.slice none 0 0,.slice none 0 0] 75 (0,0))):=by unfold Hid;rw[bH I.out];rfl
 have aC:Hid (Eh (w6.setCell ⟨i,6,none⟩ (.slice (some ⟨S,0,none⟩) n n)) K n (aS n)):=by have d:=aB.out.below l.out;exact⟨d.at_.aA (xF _ _ _ _ (by simp;omega)),d.len,d.fits⟩
 have aL:Hid (Eh (w6.setCell ⟨i,6,none⟩ (.slice (some ⟨S,0,none⟩) n n)) L n (aS n)):=by have d:=aJ.out.below l.out;exact⟨d.at_.aA (xF _ _ _ _ (by simp;omega)),d.len,d.fits⟩
 have aR:Hid (Eh (w6.setCell ⟨i,6,none⟩ (.slice (some ⟨S,0,none⟩) n n)) M n (aS n)):=by have d:=aQ.out.below l.out;exact⟨d.at_.aA (xF _ _ _ _ (by simp;omega)),d.len,d.fits⟩
 have aX:Hid (Eh (w6.setCell ⟨i,6,none⟩ (.slice (some ⟨S,0,none⟩) n n)) N n (aS n)):=by have d:=aW.out.below l.out;exact⟨d.at_.aA (xF _ _ _ _ (by simp;omega)),d.len,d.fits⟩
 have bb:Hid (Eh (w6.setCell ⟨i,6,none⟩ (.slice (some ⟨S,0,none⟩) n n)) O n (aS n)):=by have d:=ad.out.below l.out;exact⟨d.at_.aA (xF _ _ _ _ (by simp;omega)),d.len,d.fits⟩
 have S6:Hid (Eh (w6.setCell ⟨i,6,none⟩ (.slice (some ⟨S,0,none⟩) n n)) S n (aS n)):=by have d:=ae.out;exact⟨d.at_.aA (xF _ _ _ _ (by simp;omega)),d.len,d.fits⟩
 have bX:Hid (zAV (w6.setCell ⟨i,6,none⟩ (.slice (some ⟨S,0,none⟩) n n)) (.slice (some ⟨V,0,none⟩) n n) es):=(bW.out.below l.out).eO (xF _ _ _ _ (by simp;omega)) rfl;have bL:Hid (Below (w.heap.size+1) t (w6.setCell ⟨i,6,none⟩ (.slice (some ⟨S,0,none⟩) n n))):=(aK bK.out (by omega) l.out).setCell (p:=⟨i,6,none⟩) (by simp;omega) _;have cN:S<(w6.setCell ⟨i,6,none⟩ (.slice (some ⟨S,0,none⟩) n n)).heap.size:=S6.out.lt;clear x y z A B C D E F G H s I l ae;generalize bz:w6.setCell ⟨i,6,none⟩ (.slice (some ⟨S,0,none⟩) n n)=V6 at *;clear bz;have ae:=S6;clear S6 aq bW bK aB aJ aQ aW ad;obtain⟨x,y,z,A,B,C,D,E,F,G,H,s⟩:=gH ar.out;go_upto_region 11 with (first | (go_at_call 74;refine (iT n _ X).mono ?_;rintro e w7 ⟨T,rfl,r,cA,o,m,J⟩;have af:=zAa (Eh.mk r o m);have I:=zAa ((J.block _ s).trans ar.out);have l:=zAa J;clear r o m J x y z A B C D E F G H s;obtain⟨x,y,z,A,B,C,D,E,F,G,H,s⟩:=gH I.out))
 have cr:i<T:=by have:=(Array.getElem?_eq_some_iff.1 ar.out).1;omega
 have au:Hid ((w7.setCell ⟨i,7,none⟩ (.slice (some ⟨T,0,none⟩) n n)).heap[i]?=some (.cells #[.slice (some ⟨V,0,none⟩) n n,.slice (some ⟨K,0,none⟩) n n,.slice (some ⟨L,0,none⟩) n n,.slice (some ⟨M,0,none⟩) n n,.slice (some ⟨N,0,none⟩) n n,.slice (some ⟨O,0,none⟩) n n,.slice (some ⟨S,0,none⟩) n n,.slice (some ⟨T,0,none⟩) n n,.slice none 0 0,.slice none 0 0] 75 (0,0))):=by unfold Hid;rw[bH I.out];rfl
 have aD:Hid (Eh (w7.setCell ⟨i,7,none⟩ (.slice (some ⟨T,0,none⟩) n n)) K n (aS n)):=by have d:=aC.out.below l.out;exact⟨d.at_.aA (xF _ _ _ _ (by simp;omega)),d.len,d.fits⟩
 have aM:Hid (Eh (w7.setCell ⟨i,7,none⟩ (.slice (some ⟨T,0,none⟩) n n)) L n (aS n)):=by have d:=aL.out.below l.out;exact⟨d.at_.aA (xF _ _ _ _ (by simp;omega)),d.len,d.fits⟩
 have aT:Hid (Eh (w7.setCell ⟨i,7,none⟩ (.slice (some ⟨T,0,none⟩) n n)) M n (aS n)):=by have d:=aR.out.below l.out;exact⟨d.at_.aA (xF _ _ _ _ (by simp;omega)),d.len,d.fits⟩
 have aY:Hid (Eh (w7.setCell ⟨i,7,none⟩ (.slice (some ⟨T,0,none⟩) n n)) N n (aS n)):=by have d:=aX.out.below l.out;exact⟨d.at_.aA (xF _ _ _ _ (by simp;omega)),d.len,d.fits⟩
 have bc:Hid (Eh (w7.setCell ⟨i,7,none⟩ (.slice (some ⟨T,0,none⟩) n n)) O n (aS n)):=by have d:=bb.out.below l.out;exact⟨d.at_.aA (xF _ _ _ _ (by simp;omega)),d.len,d.fits⟩
 have bg:Hid (Eh (w7.setCell ⟨i,7,none⟩ (.slice (some ⟨T,0,none⟩) n n)) S n (aS n)):=by have d:=ae.out.below l.out;exact⟨d.at_.aA (xF _ _ _ _ (by simp;omega)),d.len,d.fits⟩
 have S7:Hid (Eh (w7.setCell ⟨i,7,none⟩ (.slice (some ⟨T,0,none⟩) n n)) T n (aS n)):=by have d:=af.out;exact⟨d.at_.aA (xF _ _ _ _ (by simp;omega)),d.len,d.fits⟩
 have bY:Hid (zAV (w7.setCell ⟨i,7,none⟩ (.slice (some ⟨T,0,none⟩) n n)) (.slice (some ⟨V,0,none⟩) n n) es):=(bX.out.below l.out).eO (xF _ _ _ _ (by simp;omega)) rfl;have bM:Hid (Below (w.heap.size+1) t (w7.setCell ⟨i,7,none⟩ (.slice (some ⟨T,0,none⟩) n n))):=(aK bL.out (by omega) l.out).setCell (p:=⟨i,7,none⟩) (by simp;omega) _;have cO:T<(w7.setCell ⟨i,7,none⟩ (.slice (some ⟨T,0,none⟩) n n)).heap.size:=S7.out.lt;clear x y z A B C D E F G H s I l af;generalize bA:w7.setCell ⟨i,7,none⟩ (.slice (some ⟨T,0,none⟩) n n)=V7 at *;clear bA;have af:=S7;clear S7 ar bX bL aC aL aR aX bb ae;obtain⟨x,y,z,A,B,C,D,E,F,G,H,s⟩:=gH au.out;go_upto_region 12 with (first | (go_at_call 74;refine (iT n _ X).mono ?_;rintro e w8 ⟨U,rfl,r,cB,o,m,J⟩;have ag:=zAa (Eh.mk r o m);have I:=zAa ((J.block _ s).trans au.out);have l:=zAa J;clear r o m J x y z A B C D E F G H s;obtain⟨x,y,z,A,B,C,D,E,F,G,H,s⟩:=gH I.out))
 have cs:i<U:=by have:=(Array.getElem?_eq_some_iff.1 au.out).1;omega
 have av:Hid ((w8.setCell ⟨i,8,none⟩ (.slice (some ⟨U,0,none⟩) n n)).heap[i]?=some (.cells #[.slice (some ⟨V,0,none⟩) n n,.slice (some ⟨K,0,none⟩) n n,.slice (some ⟨L,0,none⟩) n n,.slice (some ⟨M,0,none⟩) n n,.slice (some ⟨N,0,none⟩) n n,.slice (some ⟨O,0,none⟩) n n,.slice (some ⟨S,0,none⟩) n n,.slice (some ⟨T,0,none⟩) n n,.slice (some ⟨U,0,none⟩) n n,.slice none 0 0] 75 (0,0))):=by unfold Hid;rw[bH I.out];rfl
 have aE:Hid (Eh (w8.setCell ⟨i,8,none⟩ (.slice (some ⟨U,0,none⟩) n n)) K n (aS n)):=by have d:=aD.out.below l.out;exact⟨d.at_.aA (xF _ _ _ _ (by simp;omega)),d.len,d.fits⟩
 have aN:Hid (Eh (w8.setCell ⟨i,8,none⟩ (.slice (some ⟨U,0,none⟩) n n)) L n (aS n)):=by have d:=aM.out.below l.out;exact⟨d.at_.aA (xF _ _ _ _ (by simp;omega)),d.len,d.fits⟩
 have aU:Hid (Eh (w8.setCell ⟨i,8,none⟩ (.slice (some ⟨U,0,none⟩) n n)) M n (aS n)):=by have d:=aT.out.below l.out;exact⟨d.at_.aA (xF _ _ _ _ (by simp;omega)),d.len,d.fits⟩
 have aZ:Hid (Eh (w8.setCell ⟨i,8,none⟩ (.slice (some ⟨U,0,none⟩) n n)) N n (aS n)):=by have d:=aY.out.below l.out;exact⟨d.at_.aA (xF _ _ _ _ (by simp;omega)),d.len,d.fits⟩
 have bd:Hid (Eh (w8.setCell ⟨i,8,none⟩ (.slice (some ⟨U,0,none⟩) n n)) O n (aS n)):=by have d:=bc.out.below l.out;exact⟨d.at_.aA (xF _ _ _ _ (by simp;omega)),d.len,d.fits⟩
 have bh:Hid (Eh (w8.setCell ⟨i,8,none⟩ (.slice (some ⟨U,0,none⟩) n n)) S n (aS n)):=by have d:=bg.out.below l.out;exact⟨d.at_.aA (xF _ _ _ _ (by simp;omega)),d.len,d.fits⟩
 have bj:Hid (Eh (w8.setCell ⟨i,8,none⟩ (.slice (some ⟨U,0,none⟩) n n)) T n (aS n)):=by have d:=af.out.below l.out;exact⟨d.at_.aA (xF _ _ _ _ (by simp;omega)),d.len,d.fits⟩
 have S8:Hid (Eh (w8.setCell ⟨i,8,none⟩ (.slice (some ⟨U,0,none⟩) n n)) U n (aS n)):=by have d:=ag.out;exact⟨d.at_.aA (xF _ _ _ _ (by simp;omega)),d.len,d.fits⟩
 have bZ:Hid (zAV (w8.setCell ⟨i,8,none⟩ (.slice (some ⟨U,0,none⟩) n n)) (.slice (some ⟨V,0,none⟩) n n) es):=(bY.out.below l.out).eO (xF _ _ _ _ (by simp;omega)) rfl;have bN:Hid (Below (w.heap.size+1) t (w8.setCell ⟨i,8,none⟩ (.slice (some ⟨U,0,none⟩) n n))):=(aK bM.out (by omega) l.out).setCell (p:=⟨i,8,none⟩) (by simp;omega) _;have cP:U<(w8.setCell ⟨i,8,none⟩ (.slice (some ⟨U,0,none⟩) n n)).heap.size:=S8.out.lt;clear x y z A B C D E F G H s I l ag;generalize bB:w8.setCell ⟨i,8,none⟩ (.slice (some ⟨U,0,none⟩) n n)=V8 at *;clear bB;have ag:=S8;clear S8 au bY bM aD aM aT aY bc bg af;obtain⟨x,y,z,A,B,C,D,E,F,G,H,s⟩:=gH av.out;go_upto_region 13 with (first | (go_at_call 74;refine (iT n _ X).mono ?_;rintro e w9 ⟨W,rfl,r,cC,o,m,J⟩;have ah:=zAa (Eh.mk r o m);have I:=zAa ((J.block _ s).trans av.out);have l:=zAa J;clear r o m J x y z A B C D E F G H s;obtain⟨x,y,z,A,B,C,D,E,F,G,H,s⟩:=gH I.out))
 have ct:i<W:=by have:=(Array.getElem?_eq_some_iff.1 av.out).1;omega
 have cg:Hid ((w9.setCell ⟨i,9,none⟩ (.slice (some ⟨W,0,none⟩) n n)).heap[i]?=some (.cells #[.slice (some ⟨V,0,none⟩) n n,.slice (some ⟨K,0,none⟩) n n,.slice (some ⟨L,0,none⟩) n n,.slice (some ⟨M,0,none⟩) n n,.slice (some ⟨N,0,none⟩) n n,.slice (some ⟨O,0,none⟩) n n,.slice (some ⟨S,0,none⟩) n n,.slice (some ⟨T,0,none⟩) n n,.slice (some ⟨U,0,none⟩) n n,.slice (some ⟨W,0,none⟩) n n] 75 (0,0))):=by unfold Hid;rw[bH I.out];rfl
 have aF:Hid (Eh (w9.setCell ⟨i,9,none⟩ (.slice (some ⟨W,0,none⟩) n n)) K n (aS n)):=by have d:=aE.out.below l.out;exact⟨d.at_.aA (xF _ _ _ _ (by simp;omega)),d.len,d.fits⟩
 have aO:Hid (Eh (w9.setCell ⟨i,9,none⟩ (.slice (some ⟨W,0,none⟩) n n)) L n (aS n)):=by have d:=aN.out.below l.out;exact⟨d.at_.aA (xF _ _ _ _ (by simp;omega)),d.len,d.fits⟩
 have aV:Hid (Eh (w9.setCell ⟨i,9,none⟩ (.slice (some ⟨W,0,none⟩) n n)) M n (aS n)):=by have d:=aU.out.below l.out;exact⟨d.at_.aA (xF _ _ _ _ (by simp;omega)),d.len,d.fits⟩
 have ba:Hid (Eh (w9.setCell ⟨i,9,none⟩ (.slice (some ⟨W,0,none⟩) n n)) N n (aS n)):=by have d:=aZ.out.below l.out;exact⟨d.at_.aA (xF _ _ _ _ (by simp;omega)),d.len,d.fits⟩
 have bf:Hid (Eh (w9.setCell ⟨i,9,none⟩ (.slice (some ⟨W,0,none⟩) n n)) O n (aS n)):=by have d:=bd.out.below l.out;exact⟨d.at_.aA (xF _ _ _ _ (by simp;omega)),d.len,d.fits⟩
 have bi:Hid (Eh (w9.setCell ⟨i,9,none⟩ (.slice (some ⟨W,0,none⟩) n n)) S n (aS n)):=by have d:=bh.out.below l.out;exact⟨d.at_.aA (xF _ _ _ _ (by simp;omega)),d.len,d.fits⟩
 have bk:Hid (Eh (w9.setCell ⟨i,9,none⟩ (.slice (some ⟨W,0,none⟩) n n)) T n (aS n)):=by have d:=bj.out.below l.out;exact⟨d.at_.aA (xF _ _ _ _ (by simp;omega)),d.len,d.fits⟩
 have bl:Hid (Eh (w9.setCell ⟨i,9,none⟩ (.slice (some ⟨W,0,none⟩) n n)) U n (aS n)):=by have d:=ag.out.below l.out;exact⟨d.at_.aA (xF _ _ _ _ (by simp;omega)),d.len,d.fits⟩
 have S9:Hid (Eh (w9.setCell ⟨i,9,none⟩ (.slice (some ⟨W,0,none⟩) n n)) W n (aS n)):=by have d:=ah.out;exact⟨d.at_.aA (xF _ _ _ _ (by simp;omega)),d.len,d.fits⟩
 have ca:Hid (zAV (w9.setCell ⟨i,9,none⟩ (.slice (some ⟨W,0,none⟩) n n)) (.slice (some ⟨V,0,none⟩) n n) es):=(bZ.out.below l.out).eO (xF _ _ _ _ (by simp;omega)) rfl;have cW:Hid (Below (w.heap.size+1) t (w9.setCell ⟨i,9,none⟩ (.slice (some ⟨W,0,none⟩) n n))):=(aK bN.out (by omega) l.out).setCell (p:=⟨i,9,none⟩) (by simp;omega) _;have cR:W<(w9.setCell ⟨i,9,none⟩ (.slice (some ⟨W,0,none⟩) n n)).heap.size:=S9.out.lt;clear x y z A B C D E F G H s I l ah;generalize bC:w9.setCell ⟨i,9,none⟩ (.slice (some ⟨W,0,none⟩) n n)=V9 at *;clear bC;have ah:=S9;clear S9 av bZ bN aE aN aU aZ bd bh bj ag;have FM:Hid (Ei V9 i (FA.mk n (.slice (some ⟨V,0,none⟩) n n) K L M N O S T U W) (EE.bT es)):=by
  have hl:=HL.out;have Y:aS es.length=aS n:=by rw[hl]
  exact⟨cg.out,⟨ca.out,hl,X,by rw[EE.bT,Y];exact aF.out,by rw[EE.bT,Y];exact aO.out,by rw[EE.bT,Y];exact aV.out,by rw[EE.bT,Y];exact ba.out,by rw[EE.bT,Y];exact bf.out,by rw[EE.bT,Y];exact bi.out,by rw[EE.bT,Y];exact bk.out,by rw[EE.bT,Y];exact bl.out,by rw[EE.bT,Y];exact ah.out⟩,by simp;omega⟩
 have dm:∀ g∈[K,L,M,N,O,S,T,U,W],w.heap.size+1<=g:=by simp;omega
 clear cl cm cn co cp cq cr cs ct cH cI cJ cK cL cN cO cP cR cu cv cw cx cy cz cA cB cC aF aO aV ba bf bi bk bl ah cg ca cj;go_wp2;go_loopw [47] (fun j wr=>∃ (k:Nat) (f:EE),k<=n/\j=.int .i64 k/\Hid (f=(xR k).foldl (mN es) (EE.bT es))/\Hid (Ei wr i (FA.mk n (.slice (some ⟨V,0,none⟩) n n) K L M N O S T U W) f)/\Hid (Below (w.heap.size+1) t wr)) (fun j _=>n-(intOf j).toNat)
 case atStart=>exact⟨0,_,xc _,rfl,rfl,FM,cW⟩
 case round =>
  obtain⟨k,f,hk,rfl,HT,HI,aj⟩:=hrel;by_cases hlt:k<n
  ·have dA:(k:Int)<(n:Int):=by omega
   have cD:k<es.length:=by rw[HL.out];exact hlt
   have cf:Hid (wr.rangeAt be (k*10) (aI (ev es k)).toList):=fY (ce.out.cM HL.out.symm k cD) ((aj.out.block be (by omega)).trans (bo.out.block be ch));have df:=di.out.ev k cD;have dk:Hid ((xR (k+1)).foldl (mN es) (EE.bT es)=(xR n).foldl (fun f q=>f.gG k (ev es k) q (ev es q)) f):=by unfold Hid;rw[fI,<- HT.out];exact de.out f k
   have cV:be<wr.heap.size:=by have:=aj.out.size;omega
   generalize ev es k=e1 at *;have cc:Hid (zAP (wr.alloc (.cells (aI e1) 146)) wr.heap.size e1):=zAP.bT wr e1;have cb:=zAa (HI.out.below ((xd _ _).alloc (xW _) (.cells (aI e1) 146)));have bO:Hid (Below (w.heap.size+1) t (wr.alloc (.cells (aI e1) 146))):=aj.out.alloc (by have:=aj.out.size;omega) _;go_wp2_with (first | (refine cQ (.tmp 50) rfl rfl be (k*10) e1 rfl cf.out ?_));go_loopw [54] (fun j wq=>∃ (q:Nat) (u:EE),q<=n/\j=.int .i64 q/\Hid (u=(xR q).foldl (fun f q=>f.gG k e1 q (ev es q)) f)/\Hid (Ei wq i (FA.mk n (.slice (some ⟨V,0,none⟩) n n) K L M N O S T U W) u)/\Hid (Below (w.heap.size+1) t wq)/\Hid (zAP wq wr.heap.size e1)) (fun j _=>n-(intOf j).toNat)
   case atStart=>exact⟨0,f,xc _,rfl,rfl,cb,bO,cc⟩
   case round =>
    clear cc cb bO cf cV;obtain⟨q,u,hq,rfl,HU,HJ,ak,HA⟩:=hrel;by_cases hql:q<n
    ·have dB:(q:Int)<(n:Int):=by omega
     have dt:q<es.length:=by rw[HL.out];exact hql
     have dj:Hid (wr.rangeAt be (q*10) (aI (ev es q)).toList):=fY (ce.out.cM HL.out.symm q dt) ((ak.out.block be (by omega)).trans (bo.out.block be ch));have dl:Hid ((xR (q+1)).foldl (fun f q=>f.gG k e1 q (ev es q)) f=u.gG k e1 q (ev es q)):=by unfold Hid;rw[fI,<- HU.out]
     have cV:be<wr.heap.size:=by have:=ak.out.size;omega
     generalize ev es q=e2 at *;have cY:=zAa (HJ.out.below ((xd _ _).alloc (xW _) (.cells (aI e2) 146)));have cd:=zAa (HA.out.alloc (.cells (aI e2) 146));have cZ:=zAa (zAP.bT wr e2);have bP:Hid (Below (w.heap.size+1) t (wr.alloc (.cells (aI e2) 146))):=ak.out.alloc (by have:=ak.out.size;omega) _;have dn:w.heap.size+1<=(wr.alloc (.cells (aI e2) 146)).heap.size:=by have:=bP.out.size;omega
     obtain⟨x0,x1,x2,x3,x4,x5,x6,x7,x8,x9,xf,xl⟩:=cd.out.facts;obtain⟨x,y,z,A,B,C,D,E,F,G,H,s⟩:=cZ.out.facts;simp only[aI] at x0 x1 x2 x3 x4 x5 x6 x7 x8 x9 xf xl x y z A B C D E F G H s;go_wp2_with (first | (refine cQ (.tmp 57) rfl rfl be (q*10) e2 rfl dj.out ?_) | (go_at_call 107;refine (zKx (w.heap.size+1) i (FA.mk n (.slice (some ⟨V,0,none⟩) n n) K L M N O S T U W) u k q e1 e2 _ cY.out dn dm df (by omega) (by omega)).mono ?_;rintro e wc ⟨rfl,hm,ci,ck⟩;have dg:=zAa hm;have cX:=zAa (bP.out.trans ci);have da:=zAa (ck _ _ cd.out);clear hm ci ck));go_roundw
     case rel=>exact⟨q+1,_,by omega,by go_num,dl.out.symm,dg,cX,da⟩
     case measure=>simp[intOf];omega
    ·have dh:Hid (u=(xR (k+1)).foldl (mN es) (EE.bT es)):=by unfold Hid;rw[dk.out,HU.out,show q=n by omega]
     go_wp2;go_roundw
     case rel=>exact⟨k+1,u,by omega,by go_num,dh,HJ,ak⟩
     case measure=>simp[intOf];omega
  ·have dq:k=n:=by omega
   have dc:Hid (f=zMv es):=by unfold Hid;rw[dd.out,HT.out,dq]
   have aw:=HI.out.box;simp only[zAn] at aw;obtain⟨x,y,z,A,B,C,D,E,F,G,H,s⟩:=gH aw;have KR:=zAa ((aj.out.block _ (by omega)).trans K0.out);obtain⟨z0,z1,z2,z3,z4,z5,z6,z7,z8,z9,zf,zl⟩:=gH KR.out;have dw:=zAa aw;clear aw;go_wp2;obtain⟨t0,t1,t2⟩:=wS [.slice (some ⟨V,0,none⟩) n n,.slice (some ⟨K,0,none⟩) n n,.slice (some ⟨L,0,none⟩) n n,.slice (some ⟨M,0,none⟩) n n,.slice (some ⟨N,0,none⟩) n n,.slice (some ⟨O,0,none⟩) n n,.slice (some ⟨S,0,none⟩) n n,.slice (some ⟨T,0,none⟩) n n,.slice (some ⟨U,0,none⟩) n n,.slice (some ⟨W,0,none⟩) n n] KR.out rfl;refine gI (p:=2) w.heap.size _ (by kernel_rfl) underlying75 rfl (by kernel_rfl) rfl (by exact t0) rfl ⟨(FA.mk n (.slice (some ⟨V,0,none⟩) n n) K L M N O S T U W),rfl,HL.out.symm,?_,?_⟩
   ·rw[<- dc.out];exact HI.out.fin.frame KR.out t1
   ·exact t2 _ _ (xW _) (bo.out.trans (aj.out.mono (by omega)))
end Go.Proofs.YtonodfjdiepglaaGreatDoor
