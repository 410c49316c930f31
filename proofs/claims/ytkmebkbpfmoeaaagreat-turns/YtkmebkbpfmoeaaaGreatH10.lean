import Derived.Deep.RegionHeld3
import Derived.Test.YtkmebkbpfmoeaaaGreatH02
set_option linter.unusedVariables false
set_option linter.unusedSimpArgs false
set_option maxHeartbeats 12800000
namespace Go.Proofs.YtkmebkbpfmoeaaaGreat
open Go Go.RowKit
set_option maxRecDepth 100000
theorem zGC (n:Nat):madeCells #[.int .u64 0] n=zEg (Q.newR n):=by
 apply Array.ext_getElem?
 intro i
 by_cases h:i<n
 ·rw[zEh _ _ (by simpa [Q.newR] using h)]
  simp[madeCells,Q.newR,h,Nat.mod_one]
 ·rw[Array.getElem?_eq_none (by simpa [madeCells] using h),Array.getElem?_eq_none (by simpa [zEg,Q.newR] using h)]
def zCt (w w':World) (n:Nat) (l:List Nat) (e:Ending):Prop:=∃ g,e=.returned (.agg #[.slice (some ⟨g,0,none⟩) n n])∧zAo w' g l∧w.heap.size≤g∧l.length=n∧Q.Fits l∧Below w.heap.size w w'
theorem zCA {fn:Func} {p:Tmp} {ty:TypeId} (h:fn.results=#[.cell p ty]) (tmps:Array Value) (Pg:Program) (w:World) :
  (results fn tmps).run Pg w=((asAddr (tmps.getD p undef)).run Pg w).andThen fun a w₁=>(loadVar ty a).run Pg w₁:=by
 simp only[results,h]
 simp[Sem.run_bind,Result.andThen]
theorem zBv {fn:Func} {R:Ending→World→Prop} {a:Act} {w:World} {p:Tmp} (g:Nat) (v:Value) (hres:fn.results=#[.cell p 64])
  (hp:a.tmps.getD p undef=.pointer (some ⟨g,0,none⟩)) (h:w.heap[g]?=some (.cells #[v] 64 (0,0))) (hd:a.defers=[]) (hR:R (.returned (.agg #[v])) w):bodyPost Tryz.prog fn R .ret a w:=by
 refine bodyPost_ret (v:=.agg #[v]) ?_ hd hR
 rw[zCA hres,hp]
 have:(asAddr (.pointer (some ⟨g,0,none⟩))).run Tryz.prog w=.ok ⟨g,0,none⟩ w:=rfl
 rw[this,Result.andThen_ok,zBi w g _ _ _ h _ Tryz.underlying64 rfl (by kernel_rfl)]
theorem zAm {w:World} {g:Nat} {v:Value} {t:TypeId} (h:w.heap[g]?=some (.cells #[v] t (0,0))):w.cell? ⟨g,0,none⟩=some v∧w.frozen? ⟨g,0,none⟩=false∧g<w.heap.size:=by
 refine⟨?_,?_,(Array.getElem?_eq_some_iff.1 h).1⟩<;>simp[World.cell?,World.frozen?,h]
theorem zAw {ops:Array Oper} {rest:List Oper} {op:Oper} {a:Act} {w:World} {Q:Exit→Act→World→Prop} (x:Operand) (hgd:op.guard=none) (ho:op.op=.load 64 x)
  (g:Nat) (v:Value) (hx:a.eval x=.pointer (some ⟨g,0,none⟩)) (hg:w.heap[g]?=some (.cells #[v] 64 (0,0)))
  (h:wpList Tryz.prog ops Q rest (a.put op.dst (.agg #[v])) w):wpList Tryz.prog ops Q (op::rest) a w :=
 zCh hgd _ x ho g hx _ _ hg _ Tryz.underlying64 rfl (by kernel_rfl) h
theorem zBn (n:Nat) (w:World) (hn:n≤64) :
  Calls Tryz.prog 72 #[.int .i64 (n:Int)] w fun e w'=>zCt w w' n (Q.newR n) e:=by
 have hmk:∀ w,(Instr.makeSlice 62 (.int .i64 (n:Int)) (.int .i64 (n:Int))).run Tryz.prog w=.ok (.slice (some ⟨w.heap.size,0,none⟩) n n) (w.alloc (.cells (madeCells #[.int .u64 0] n) 127)):=fun w =>
  run_make_row' 62 127 (.int .u64 0) 8 Tryz.underlying62 Tryz.infoSet rfl .i64 .i64 n (by omega) (by omega) w
 have h1:¬ ((n:Int)<0):=by omega
 have h1d:decide ((n:Int)<0)=false:=by simp
 have h2:¬ ((64:Int)<(n:Int)):=by omega
 go_enter Tryz.func72,Tryz.ntmps72
 go_wp2
 refine zBv (p:=2) w.heap.size _ (by kernel_rfl) rfl ?_ rfl ⟨w.heap.size+1,rfl,?_,by omega,by simp[Q.newR],Q.fits_new n hn,((Below.refl _ _).alloc (Nat.le_refl _) _).alloc (by simp) _⟩
 ·rw[Below.heap_alloc _ _ _ (by simp)];exact heap_alloc_new w _
 ·unfold zAo
  rw[← zGC]
  have:=heap_alloc_new (w.alloc (.cells #[.slice (some ⟨w.heap.size+1,0,none⟩) n n] 64)) (.cells (madeCells #[.int .u64 0] n) 127)
  simpa using this
def zDd (w:World) (b o g n:Nat) (l:List Nat):Prop:=w.cell? ⟨b,o,none⟩=some (.slice (some ⟨g,0,none⟩) n n)∧zAo w g l∧l.length=n∧b<w.heap.size∧b≠g
theorem zBw (b o g n:Nat) (l:List Nat) (x y:Int) (w:World) (h:zDd w b o g n l) (hf:Q.Fits l) :
  Calls Tryz.prog 73 #[.pointer (some ⟨b,o,none⟩),.int .i64 x,.int .i64 y] w fun e w'=>e=.returned (.tuple #[])∧zAo w' g (Q.addR l x y)∧w.grownBy w' (some g):=by
 obtain⟨hc,hs,hn,hblt,hbg⟩:=h
 have hlen:=hf.len
 have hglt:=hs.lt
 by_cases h0:x<0
 ·have HE:Hid (Q.addR l x y=l):=by unfold Hid Q.addR;rw[if_pos (Or.inl h0)]
  have HS:=zAa hs
  clear hs
  go_enter Tryz.func73,Tryz.ntmps73
  go_wp2
  (try simp only[Exit.inBlock,Exit.then]);refine bodyPost_ret (results_none rfl _ _ _) rfl ?_
  rw[HE.out];exact⟨rfl,HS.out,zAA _ _⟩
 have hd0:decide (x<0)=false:=by simpa using h0
 by_cases h1:(n:Int)≤x
 ·have HE:Hid (Q.addR l x y=l):=by unfold Hid Q.addR;rw[if_pos (Or.inr (Or.inl (by omega)))]
  have HS:=zAa hs
  clear hs
  go_enter Tryz.func73,Tryz.ntmps73
  go_wp2
  (try simp only[Exit.inBlock,Exit.then]);refine bodyPost_ret (results_none rfl _ _ _) rfl ?_
  rw[HE.out];exact⟨rfl,HS.out,zAA _ _⟩
 have hd1:decide ((n:Int)≤x)=false:=by simpa using h1
 by_cases h2:(n:Int)≤y
 ·have HE:Hid (Q.addR l x y=l):=by unfold Hid Q.addR;rw[if_pos (Or.inr (Or.inr (by omega)))]
  have HS:=zAa hs
  clear hs
  go_enter Tryz.func73,Tryz.ntmps73
  go_wp2
  (try simp only[Exit.inBlock,Exit.then]);refine bodyPost_ret (results_none rfl _ _ _) rfl ?_
  rw[HE.out];exact⟨rfl,HS.out,zAA _ _⟩
 obtain⟨i,rfl⟩:=Int.eq_ofNat_of_zero_le (by omega:0≤x)
 have hi:i<l.length:=by omega
 have hin:(i:Int)<(n:Int):=by omega
 have c:=hs.cellOf i hi
 have f:=hs.free i
 have hor:=bits_or_u64_nat (Q.ofR l (i:Int)) (Q.one y) (Q.zIW hf _) (Q.zKw y)
 have HE:Hid (Q.addR l (i:Int) y=l.set i (Q.ofR l (i:Int) ||| Q.one y)):=by unfold Hid Q.addR;rw[if_neg (by omega)];rfl
 have HS:=zAa (hs.set i (Q.ofR l (i:Int) ||| Q.one y))
 clear hs hf
 generalize Q.ofR l (i:Int)=v at *
 go_enter Tryz.func73,Tryz.ntmps73
 go_wp2
 go_region_with (go_at_call 107;refine (zDV _ _).mono ?_;rintro e w1 ⟨rfl,hw1⟩;subst hw1)
 all_goals
  go_end0
  rw[HE.out]
  exact⟨rfl,HS.out,zBT (zAj (zAA _ _) _ _)⟩
namespace Q
theorem loops_range (r:List Nat):zIK r=(List.range r.length).any (fun i:Nat=>hasR r (i:Int) (i:Int)):=rfl
theorem zIP (p:Nat→Bool) (k:Nat):(List.range (k+1)).any p=((List.range k).any p||p k):=by
 rw[List.range_succ,List.any_append];simp
theorem zIQ (p:Nat→Bool) (k n:Nat) (h:k≤n) (ht:(List.range k).any p=true):(List.range n).any p=true:=by
 rw[List.any_eq_true] at ht ⊢
 obtain⟨x,hx,hp⟩:=ht
 exact⟨x,by simp at hx ⊢;omega,hp⟩
def mix (f:Nat→Nat) (n k:Nat) (t:List Nat):List Nat:=(List.range n).map fun i=>if i<k then f i else t.getD i 0
theorem zKc (f:Nat→Nat) (t:List Nat):mix f t.length 0 t=t:=by
 unfold mix
 apply List.ext_getElem
 ·simp
 ·intro i h1 h2;simp at h1;simp[List.getElem?_eq_getElem h1]
theorem zKd (f:Nat→Nat) (n:Nat) (t:List Nat):mix f n n t=(List.range n).map f:=by
 unfold mix
 apply List.map_congr_left
 intro i hi;simp at hi;simp[hi]
theorem zKe (f:Nat→Nat) (n k:Nat) (t:List Nat):(mix f n k t).length=n:=by simp[mix]
theorem zKo (f:Nat→Nat) (n k:Nat) (t:List Nat) (h:k<n):(mix f n k t).set k (f k)=mix f n (k+1) t:=by
 unfold mix
 apply List.ext_getElem
 ·simp
 ·intro i h1 h2
  simp at h2
  rw[List.getElem_set]
  by_cases hk:k=i
  ·subst hk;simp
  ·by_cases hlt:i<k
   ·simp[hk,hlt,show i<k+1 by omega]
   ·simp[hk,hlt,show ¬ i<k+1 by omega]
end Q
theorem zEu (g n:Nat) (l:List Nat) (w:World) (h:zAo w g l) (hn:l.length=n) (hf:Q.Fits l) :
  Calls Tryz.prog 82 #[.agg #[.slice (some ⟨g,0,none⟩) n n]] w fun e w'=>e=.returned (.bool (Q.zIK l))∧Below w.heap.size w w':=by
 have hlen:=hf.len
 have hglt:=h.lt
 have HA:=zAa h
 have HF:=zAa hf
 have HN:=zAa hn
 have hn64:n≤64:=by omega
 have HE:Hid (Q.zIK l=(List.range n).any (fun i:Nat=>Q.hasR l (i:Int) (i:Int))):=by unfold Hid;rw[Q.loops_range,hn]
 clear h hf hn
 go_enter Tryz.func82,Tryz.ntmps82
 go_wp2
 go_loopw [7] (fun i wr=>∃ k:Nat,k≤n∧i=.int .i64 k∧Hid ((List.range k).any (fun i:Nat=>Q.hasR l (i:Int) (i:Int))=false)∧Hid (wr.heap[w.heap.size]?=some (.cells #[.slice (some ⟨g,0,none⟩) n n] 64 (0,0)))∧Below w.heap.size w wr) (fun i _=>n-(intOf i).toNat)
 case atStart=>exact⟨0,Nat.zero_le _,rfl,by unfold Hid;simp,heap_alloc_new w _,(Below.refl _ _).alloc (Nat.le_refl _) _⟩
 case round =>
  obtain⟨k,hk,rfl,HK,HB,hbel⟩:=hrel
  obtain⟨z0,z1,z2⟩:=zAm HB.out
  by_cases hlt:k<n
  ·have hin:(k:Int)<(n:Int):=by omega
   have hS:=zAa (HA.out.of_block (hbel.block g hglt))
   have HR:=zAa (Q.zIP (fun i:Nat=>Q.hasR l (i:Int) (i:Int)) k)
   have hwz:=hbel.size
   cases hz:Q.hasR l (k:Int) (k:Int)
   ·have HN2:Hid ((List.range (k+1)).any (fun i:Nat=>Q.hasR l (i:Int) (i:Int))=false):=by unfold Hid;rw[HR.out,HK.out,hz];rfl
    go_wp2_with (first | (refine zAw (.tmp 1) rfl rfl w.heap.size _ rfl HB.out ?_) | (go_at_call 75;refine (zBF g n l _ _ _ hS.out HN.out.symm HF.out).mono ?_;rintro e w1 ⟨rfl,hb1⟩;rw[hz]))
    go_roundw
    case rel=>exact⟨k+1,by omega,by go_num,HN2,(hb1.block _ z2).trans HB.out,hbel.trans (hb1.mono hwz)⟩
    case measure=>simp[intOf];omega
   ·have HT:Hid (Q.zIK l=true):=by unfold Hid;rw[HE.out];exact Q.zIQ _ (k+1) n hlt (by rw[HR.out,hz];simp)
    go_wp2_with (first | (refine zAw (.tmp 1) rfl rfl w.heap.size _ rfl HB.out ?_) | (go_at_call 75;refine (zBF g n l _ _ _ hS.out HN.out.symm HF.out).mono ?_;rintro e w1 ⟨rfl,hb1⟩;rw[hz]))
    go_ret
    rw[HT.out];exact⟨rfl,hbel.trans (hb1.mono hwz)⟩
  ·have HT:Hid (Q.zIK l=false):=by
    have h1:=HK.out
    unfold Hid;rw[HE.out,show n=k by omega];exact h1
   go_wp2
   go_ret
   rw[HT.out];exact⟨rfl,hbel⟩
structure FillAt (w wr:World) (b5 gn n:Nat) (vr vo:Value) (l:List Nat):Prop where
 c2:wr.heap[w.heap.size]?=some (.cells #[vr] 64 (0,0))
 c3:wr.heap[w.heap.size+1]?=some (.cells #[vo] 64 (0,0))
 c4:wr.heap[w.heap.size+2]?=some (.cells #[.slice none 0 0] 64 (0,0))
 c5:wr.heap[b5]?=some (.cells #[.slice (some ⟨gn,0,none⟩) n n] 64 (0,0))
 st:zAo wr gn l
 bl:Below w.heap.size w wr
 gl:w.heap.size+3≤gn
 gb:gn<b5
theorem FillAt.next {w wr w':World} {b5 gn n:Nat} {vr vo:Value} {l:List Nat} (h:FillAt w wr b5 gn n vr vo l) (hb:Below wr.heap.size wr w') (k x:Nat):FillAt w (w'.setCell ⟨gn,k,none⟩ (.int .u64 (x:Nat))) b5 gn n vr vo (l.set k x):=by
 have lt:∀ {b:Nat} {o:Obj},wr.heap[b]?=some o→b<wr.heap.size:=fun h=>(Array.getElem?_eq_some_iff.1 h).1
 have hg:=h.gl
 have hgb:=h.gb
 have bk:∀ {b:Nat} {o:Obj},wr.heap[b]?=some o→b≠gn→(w'.setCell ⟨gn,k,none⟩ (.int .u64 (x:Nat))).heap[b]?=some o:=fun hb1 hne=>by
  rw[Below.heap_setCell _ _ _ _ hne,hb.block _ (lt hb1)];exact hb1
 exact⟨bk h.c2 (by omega),bk h.c3 (by omega),bk h.c4 (by omega),bk h.c5 (by omega),(h.st.below hb).set k x,(h.bl.trans (hb.mono h.bl.size)).setCell (p:=⟨gn,k,none⟩) (by simp;omega) _,hg,hgb⟩
theorem FillAt.keep {w wr w':World} {b5 gn n:Nat} {vr vo:Value} {l:List Nat} (h:FillAt w wr b5 gn n vr vo l) (hb:Below wr.heap.size wr w'):FillAt w w' b5 gn n vr vo l:=by
 have lt:∀ {b:Nat} {o:Obj},wr.heap[b]?=some o→b<wr.heap.size:=fun h=>(Array.getElem?_eq_some_iff.1 h).1
 have bk:∀ {b:Nat} {o:Obj},wr.heap[b]?=some o→w'.heap[b]?=some o:=fun hb1=>by rw[hb.block _ (lt hb1)];exact hb1
 exact⟨bk h.c2,bk h.c3,bk h.c4,bk h.c5,h.st.below hb,h.bl.trans (hb.mono h.bl.size),h.gl,h.gb⟩
theorem FillAt.start {w w1:World} {gn n:Nat} {vr vo:Value} {l:List Nat} (hsn:zAo w1 gn l) (hgn:w.heap.size+3≤gn) (hb1:Below (w.heap.size+3) (((w.alloc (.cells #[vr] 64)).alloc (.cells #[vo] 64)).alloc (.cells #[.slice none 0 0] 64)) w1) :
  FillAt w (w1.alloc (.cells #[.slice (some ⟨gn,0,none⟩) n n] 64)) w1.heap.size gn n vr vo l:=by
 have hz:=hb1.size
 simp at hz
 have A:∀ b,b<w.heap.size+3→(w1.alloc (.cells #[.slice (some ⟨gn,0,none⟩) n n] 64)).heap[b]?=(((w.alloc (.cells #[vr] 64)).alloc (.cells #[vo] 64)).alloc (.cells #[.slice none 0 0] 64)).heap[b]?:=fun b hb=>by
  rw[Below.heap_alloc _ _ _ (by omega),hb1.block b hb]
 refine⟨?_,?_,?_,heap_alloc_new w1 _,hsn.alloc _,?_,hgn,hsn.lt⟩
 ·rw[A _ (by omega),Below.heap_alloc _ _ _ (by simp;omega),Below.heap_alloc _ _ _ (by simp)];exact heap_alloc_new w _
 ·rw[A _ (by omega),Below.heap_alloc _ _ _ (by simp)]
  have:=heap_alloc_new (w.alloc (.cells #[vr] 64)) (.cells #[vo] 64);simpa using this
 ·rw[A _ (by omega)]
  have:=heap_alloc_new ((w.alloc (.cells #[vr] 64)).alloc (.cells #[vo] 64)) (.cells #[.slice none 0 0] 64);simpa using this
 ·exact (((((Below.refl w.heap.size w).alloc (Nat.le_refl _) _).alloc (by simp) _).alloc (by simp;omega) _).trans (hb1.mono (by omega))).alloc (by omega) _
theorem FillAt.out {w wr:World} {b5 gn n:Nat} {vr vo:Value} {l:List Nat} (h:FillAt w wr b5 gn n vr vo l) (hn:l.length=n) (hf:Q.Fits l):zCt w (wr.setCell ⟨w.heap.size+2,0,none⟩ (.slice (some ⟨gn,0,none⟩) n n)) n l (.returned (.agg #[.slice (some ⟨gn,0,none⟩) n n]))∧(wr.setCell ⟨w.heap.size+2,0,none⟩ (.slice (some ⟨gn,0,none⟩) n n)).heap[w.heap.size+2]?=some (.cells #[.slice (some ⟨gn,0,none⟩) n n] 64 (0,0)):=by
 have hg:=h.gl
 refine⟨⟨gn,rfl,h.st.of_block (Below.heap_setCell _ _ _ _ (by simp;omega)),by omega,hn,hf,h.bl.setCell (p:=⟨w.heap.size+2,0,none⟩) (by simp) _⟩,?_⟩
 rw[zAf h.c4];rfl
theorem zAU {ops:Array Oper} {rest:List Oper} {op:Oper} {a:Act} {w:World} {Q:Exit→Act→World→Prop} (x y:Operand) (hgd:op.guard=none) (ho:op.op=.store 64 x y)
  (g:Nat) (v u:Value) (hx:a.eval x=.pointer (some ⟨g,0,none⟩)) (hy:a.eval y=.agg #[u]) (hg:w.heap[g]?=some (.cells #[v] 64 (0,0))) (hu:u.oneCell'=true)
  (h:wpList Tryz.prog ops Q rest (a.put op.dst undef) (w.setCell ⟨g,0,none⟩ u)):wpList Tryz.prog ops Q (op::rest) a w:=by
 refine wpList_store_mid hgd _ x y ho g 0 #[u] hx hy (zCs hg 1 (by simp)) (by kernel_rfl) (by simpa using hu) ?_
 simpa [World.setCells] using h
theorem zHs (gr go n:Nat) (r o:List Nat) (w:World) (hr:zAo w gr r) (ho:zAo w go o) (hn:r.length=n) (hm:o.length=n) (hf:Q.Fits r) (hk:Q.Fits o) :
  Calls Tryz.prog 53 #[.agg #[.slice (some ⟨gr,0,none⟩) n n],.agg #[.slice (some ⟨go,0,none⟩) n n]] w fun e w'=>zCt w w' n (Q.orR r o) e:=by
 have hn64:n≤64:=by have:=hf.len;omega
 have HR:=zAa hr
 have HO:=zAa ho
 have HN:=zAa hn
 have HM:=zAa hm
 have hgr:=hr.lt
 have hgo:=ho.lt
 have HFR:=zAa hf
 have HFO:=zAa hk
 clear hr ho hn hm hf hk
 go_enter Tryz.func53,Tryz.ntmps53
 go_wp2_with (first | (go_at_call 72;refine (zBn n _ hn64).mono ?_;rintro e w1 ⟨gn,rfl,hsn,hgn,hln,hfn,hb1⟩;have hz1:=hb1.size;have HS:=zAa (FillAt.start (n:=n) hsn (by simpa using hgn) (by simpa using hb1));simp at hz1;clear hsn hb1))
 have hlt1:=HS.out.gb
 go_loopw [14] (fun i wr=>∃ k:Nat,k≤n∧i=.int .i64 k∧Hid (FillAt w wr w1.heap.size gn n (.slice (some ⟨gr,0,none⟩) n n) (.slice (some ⟨go,0,none⟩) n n) (Q.mix (fun i=>Q.ofR r (i:Int) ||| Q.ofR o (i:Int)) n k (Q.newR n)))) (fun i _=>n-(intOf i).toNat)
 case atStart=>exact⟨0,Nat.zero_le _,rfl,by unfold Hid;have h1:=Q.zKc (fun i=>Q.ofR r (i:Int) ||| Q.ofR o (i:Int)) (Q.newR n);rw[hln] at h1;rw[h1];exact HS.out⟩
 case round =>
  obtain⟨k,hk,rfl,HI⟩:=hrel
  obtain⟨x2,y2,l2⟩:=zAm HI.out.c2
  obtain⟨x3,y3,l3⟩:=zAm HI.out.c3
  obtain⟨x4,y4,l4⟩:=zAm HI.out.c4
  obtain⟨x5,y5,l5⟩:=zAm HI.out.c5
  have hws:=HI.out.bl.size
  have hgl:=HI.out.gl
  have hgw:=HI.out.st.lt
  by_cases hlt:k<n
  ·have hin:(k:Int)<(n:Int):=by omega
   have HSR:Hid (∀ W:World,Below wr.heap.size wr W→zAo W gr r):=fun W hb=>(HR.out.of_block (HI.out.bl.block gr hgr)).below hb
   have HSO:Hid (∀ W:World,Below wr.heap.size wr W→zAo W go o):=fun W hb=>(HO.out.of_block (HI.out.bl.block go hgo)).below hb
   have hbit:=bits_or_u64_nat (Q.ofR r (k:Int)) (Q.ofR o (k:Int)) (Q.zIW HFR.out _) (Q.zIW HFO.out _)
   have HX:=zAa (Q.zKo (fun i=>Q.ofR r (i:Int) ||| Q.ofR o (i:Int)) n k (Q.newR n) hlt)
   have hkm:k<(Q.mix (fun i=>Q.ofR r (i:Int) ||| Q.ofR o (i:Int)) n k (Q.newR n)).length:=by rw[Q.zKe];exact hlt
   have cg:=HI.out.st.cell k hkm
   have fg:=HI.out.st.free k
   go_wp2
   go_region_held3 (fun w'=>w'.cell? ⟨w.heap.size,0,none⟩=some (.slice (some ⟨gr,0,none⟩) n n)∧w'.cell? ⟨w.heap.size+1,0,none⟩=some (.slice (some ⟨go,0,none⟩) n n)∧w'.cell? ⟨w1.heap.size,0,none⟩=some (.slice (some ⟨gn,0,none⟩) n n)) (first | exact⟨x2,x3,x5⟩ | exact⟨p2,p3,p5⟩ | exact⟨s2,s3,s5⟩ | exact⟨(zAh (by omega)).trans s2,(zAh (by omega)).trans s3,(zAh (by omega)).trans s5⟩ | exact⟨(zAh (by omega)).trans p2,(zAh (by omega)).trans p3,(zAh (by omega)).trans p5⟩) (first
    | (go_at_call_of 78 (Value.slice (some ⟨gr,0,none⟩) n n);refine (zCW gr n r (k:Int) _ (HSR.out _ (by first | exact BO.out | exact (Below.refl _ _).drew)) HN.out.symm hn64).mono ?_;rintro e wa ⟨rfl,hba⟩;have BR:Hid (Below wr.heap.size wr wa):=(by first | exact BO.out.trans (hba.mono BO.out.size) | exact ((Below.refl wr.heap.size wr).drew).trans (hba.mono (by simp)));have p2:=cfL BR.out l2 x2;have p3:=cfL BR.out l3 x3;have p5:=cfL BR.out l5 x5;have pg:=cfL BR.out hgw cg;have qg:=(BR.out.frozen (p:=⟨gn,k,none⟩) hgw).trans fg)
    | (go_at_call_of 78 (Value.slice (some ⟨go,0,none⟩) n n);refine (zCW go n o (k:Int) _ (HSO.out _ (by first | exact BR.out | exact (Below.refl _ _).drew)) HM.out.symm hn64).mono ?_;rintro e wb ⟨rfl,hbb⟩;have BO:Hid (Below wr.heap.size wr wb):=(by first | exact BR.out.trans (hbb.mono BR.out.size) | exact ((Below.refl wr.heap.size wr).drew).trans (hbb.mono (by simp)));have s2:=cfL BO.out l2 x2;have s3:=cfL BO.out l3 x3;have s5:=cfL BO.out l5 x5;have sg:=cfL BO.out hgw cg;have tg:=(BO.out.frozen (p:=⟨gn,k,none⟩) hgw).trans fg))
   all_goals
    go_wp2
    go_roundw
    case rel=>exact⟨k+1,by omega,by go_num,by unfold Hid;rw[← HX.out];first | exact HI.out.next BO.out k _ | exact HI.out.next BR.out k _⟩
    case measure=>simp[intOf];omega
  ·have hkn:k=n:=by omega
   subst hkn
   have HF:Hid (FillAt w wr w1.heap.size gn k (.slice (some ⟨gr,0,none⟩) k k) (.slice (some ⟨go,0,none⟩) k k) (Q.orR r o)):=by
    have h1:=HI.out
    rw[Q.zKd] at h1
    unfold Hid Q.orR;rw[HN.out];exact h1
   obtain⟨q1,q2⟩:=HF.out.out (by rw[Q.or_len,HN.out]) (Q.fits_or HFR.out HFO.out)
   have Q1:=zAa q1
   have Q2:=zAa q2
   clear q1 q2
   go_wp2_with (first | (refine zAw (.tmp 5) rfl rfl w1.heap.size _ rfl HI.out.c5 ?_) | (refine zAU (.tmp 4) (.tmp 29) rfl rfl (w.heap.size+2) _ _ rfl rfl HI.out.c4 rfl ?_))
   refine zBv (p:=4) (w.heap.size+2) _ (by kernel_rfl) rfl Q2.out rfl Q1.out
theorem zHI (gr go n:Nat) (r o:List Nat) (w:World) (hr:zAo w gr r) (ho:zAo w go o) (hn:r.length=n) (hm:o.length=n) (hf:Q.Fits r) (hk:Q.Fits o) :
  Calls Tryz.prog 77 #[.agg #[.slice (some ⟨gr,0,none⟩) n n],.agg #[.slice (some ⟨go,0,none⟩) n n]] w fun e w'=>zCt w w' n (Q.andR r o) e:=by
 have hn64:n≤64:=by have:=hf.len;omega
 have HR:=zAa hr
 have HO:=zAa ho
 have HN:=zAa hn
 have HM:=zAa hm
 have hgr:=hr.lt
 have hgo:=ho.lt
 have HFR:=zAa hf
 have HFO:=zAa hk
 clear hr ho hn hm hf hk
 go_enter Tryz.func77,Tryz.ntmps77
 go_wp2_with (first | (go_at_call 72;refine (zBn n _ hn64).mono ?_;rintro e w1 ⟨gn,rfl,hsn,hgn,hln,hfn,hb1⟩;have hz1:=hb1.size;have HS:=zAa (FillAt.start (n:=n) hsn (by simpa using hgn) (by simpa using hb1));simp at hz1;clear hsn hb1))
 have hlt1:=HS.out.gb
 go_loopw [14] (fun i wr=>∃ k:Nat,k≤n∧i=.int .i64 k∧Hid (FillAt w wr w1.heap.size gn n (.slice (some ⟨gr,0,none⟩) n n) (.slice (some ⟨go,0,none⟩) n n) (Q.mix (fun i=>Q.ofR r (i:Int) &&& Q.ofR o (i:Int)) n k (Q.newR n)))) (fun i _=>n-(intOf i).toNat)
 case atStart=>exact⟨0,Nat.zero_le _,rfl,by unfold Hid;have h1:=Q.zKc (fun i=>Q.ofR r (i:Int) &&& Q.ofR o (i:Int)) (Q.newR n);rw[hln] at h1;rw[h1];exact HS.out⟩
 case round =>
  obtain⟨k,hk,rfl,HI⟩:=hrel
  obtain⟨x2,y2,l2⟩:=zAm HI.out.c2
  obtain⟨x3,y3,l3⟩:=zAm HI.out.c3
  obtain⟨x4,y4,l4⟩:=zAm HI.out.c4
  obtain⟨x5,y5,l5⟩:=zAm HI.out.c5
  have hws:=HI.out.bl.size
  have hgl:=HI.out.gl
  have hgw:=HI.out.st.lt
  by_cases hlt:k<n
  ·have hin:(k:Int)<(n:Int):=by omega
   have HSR:Hid (∀ W:World,Below wr.heap.size wr W→zAo W gr r):=fun W hb=>(HR.out.of_block (HI.out.bl.block gr hgr)).below hb
   have HSO:Hid (∀ W:World,Below wr.heap.size wr W→zAo W go o):=fun W hb=>(HO.out.of_block (HI.out.bl.block go hgo)).below hb
   have hbit:=bits_and_u64_nat (Q.ofR r (k:Int)) (Q.ofR o (k:Int)) (Q.zIW HFR.out _) (Q.zIW HFO.out _)
   have HX:=zAa (Q.zKo (fun i=>Q.ofR r (i:Int) &&& Q.ofR o (i:Int)) n k (Q.newR n) hlt)
   have hkm:k<(Q.mix (fun i=>Q.ofR r (i:Int) &&& Q.ofR o (i:Int)) n k (Q.newR n)).length:=by rw[Q.zKe];exact hlt
   have cg:=HI.out.st.cell k hkm
   have fg:=HI.out.st.free k
   go_wp2
   go_region_held3 (fun w'=>w'.cell? ⟨w.heap.size,0,none⟩=some (.slice (some ⟨gr,0,none⟩) n n)∧w'.cell? ⟨w.heap.size+1,0,none⟩=some (.slice (some ⟨go,0,none⟩) n n)∧w'.cell? ⟨w1.heap.size,0,none⟩=some (.slice (some ⟨gn,0,none⟩) n n)) (first | exact⟨x2,x3,x5⟩ | exact⟨p2,p3,p5⟩ | exact⟨s2,s3,s5⟩ | exact⟨(zAh (by omega)).trans s2,(zAh (by omega)).trans s3,(zAh (by omega)).trans s5⟩ | exact⟨(zAh (by omega)).trans p2,(zAh (by omega)).trans p3,(zAh (by omega)).trans p5⟩) (first
    | (go_at_call_of 78 (Value.slice (some ⟨gr,0,none⟩) n n);refine (zCW gr n r (k:Int) _ (HSR.out _ (by first | exact BO.out | exact (Below.refl _ _).drew)) HN.out.symm hn64).mono ?_;rintro e wa ⟨rfl,hba⟩;have BR:Hid (Below wr.heap.size wr wa):=(by first | exact BO.out.trans (hba.mono BO.out.size) | exact ((Below.refl wr.heap.size wr).drew).trans (hba.mono (by simp)));have p2:=cfL BR.out l2 x2;have p3:=cfL BR.out l3 x3;have p5:=cfL BR.out l5 x5;have pg:=cfL BR.out hgw cg;have qg:=(BR.out.frozen (p:=⟨gn,k,none⟩) hgw).trans fg)
    | (go_at_call_of 78 (Value.slice (some ⟨go,0,none⟩) n n);refine (zCW go n o (k:Int) _ (HSO.out _ (by first | exact BR.out | exact (Below.refl _ _).drew)) HM.out.symm hn64).mono ?_;rintro e wb ⟨rfl,hbb⟩;have BO:Hid (Below wr.heap.size wr wb):=(by first | exact BR.out.trans (hbb.mono BR.out.size) | exact ((Below.refl wr.heap.size wr).drew).trans (hbb.mono (by simp)));have s2:=cfL BO.out l2 x2;have s3:=cfL BO.out l3 x3;have s5:=cfL BO.out l5 x5;have sg:=cfL BO.out hgw cg;have tg:=(BO.out.frozen (p:=⟨gn,k,none⟩) hgw).trans fg))
   all_goals
    go_wp2
    go_roundw
    case rel=>exact⟨k+1,by omega,by go_num,by unfold Hid;rw[← HX.out];first | exact HI.out.next BO.out k _ | exact HI.out.next BR.out k _⟩
    case measure=>simp[intOf];omega
  ·have hkn:k=n:=by omega
   subst hkn
   have HF:Hid (FillAt w wr w1.heap.size gn k (.slice (some ⟨gr,0,none⟩) k k) (.slice (some ⟨go,0,none⟩) k k) (Q.andR r o)):=by
    have h1:=HI.out
    rw[Q.zKd] at h1
    unfold Hid Q.andR;rw[HN.out];exact h1
   obtain⟨q1,q2⟩:=HF.out.out (by rw[Q.and_len,HN.out]) (Q.fits_and HFR.out HFO.out)
   have Q1:=zAa q1
   have Q2:=zAa q2
   clear q1 q2
   go_wp2_with (first | (refine zAw (.tmp 5) rfl rfl w1.heap.size _ rfl HI.out.c5 ?_) | (refine zAU (.tmp 4) (.tmp 29) rfl rfl (w.heap.size+2) _ _ rfl rfl HI.out.c4 rfl ?_))
   refine zBv (p:=4) (w.heap.size+2) _ (by kernel_rfl) rfl Q2.out rfl Q1.out
namespace Q
theorem has_zero (b:Int):hasS 0 b=false:=by simp[hasS]
theorem then_zero (r o:List Nat) (a:Nat) (h:ofR r (a:Int)=0):thenA r o a=0:=by
 unfold thenA
 have:∀ (l:List Nat),l.foldl (thenB r o a) 0=0:=by
  intro l
  induction l with
  | nil=>rfl
  | cons b q ih =>
   have e:thenB r o a 0 b=0:=by unfold thenB hasR;rw[h,has_zero];rfl
   simp only[List.foldl_cons,e];exact ih
 exact this _
theorem mix_at (f:Nat→Nat) (n k:Nat) (h:k<n):(mix f n k (newR n)).getD k 0=0:=by
 rw[getD_in _ _ (by rw[zKe];exact h)]
 simp only[mix,List.getElem_map,List.getElem_range,Nat.lt_irrefl,if_false]
 rw[getD_in _ _ (by simpa [newR] using h)]
 simp[newR]
theorem mix_set_zero (f:Nat→Nat) (n k:Nat) (h:k<n):(mix f n k (newR n)).set k 0=mix f n k (newR n):=by
 have h1:=mix_at f n k h
 have hl:k<(mix f n k (newR n)).length:=by rw[zKe];exact h
 rw[getD_in _ _ hl] at h1
 rw[← h1];exact List.set_getElem_self hl
theorem set_get (l:List Nat) (k x:Nat) (h:k<l.length):ofR (l.set k x) (k:Int)=x:=by
 rw[ofR_get _ _ (by simpa using h)];simp
end Q
theorem zHa (gr go n:Nat) (r o:List Nat) (w:World) (hr:zAo w gr r) (ho:zAo w go o) (hn:r.length=n) (hm:o.length=n) (hf:Q.Fits r) (hk:Q.Fits o) :
  Calls Tryz.prog 76 #[.agg #[.slice (some ⟨gr,0,none⟩) n n],.agg #[.slice (some ⟨go,0,none⟩) n n]] w fun e w'=>zCt w w' n (Q.thenR r o) e:=by
 have hn64:n≤64:=by have:=hf.len;omega
 have HR:=zAa hr
 have HO:=zAa ho
 have HN:=zAa hn
 have HM:=zAa hm
 have hgr:=hr.lt
 have hgo:=ho.lt
 have HFR:=zAa hf
 have HFO:=zAa hk
 clear hr ho hn hm hf hk
 go_enter Tryz.func76,Tryz.ntmps76
 go_wp2_with (first | (go_at_call 72;refine (zBn n _ hn64).mono ?_;rintro e w1 ⟨gn,rfl,hsn,hgn,hln,hfn,hb1⟩;have hz1:=hb1.size;have HS:=zAa (FillAt.start (n:=n) hsn (by simpa using hgn) (by simpa using hb1));simp at hz1;clear hsn hb1))
 have hlt1:=HS.out.gb
 go_loopw [15] (fun i wr=>∃ k:Nat,k≤n∧i=.int .i64 k∧Hid (FillAt w wr w1.heap.size gn n (.slice (some ⟨gr,0,none⟩) n n) (.slice (some ⟨go,0,none⟩) n n) (Q.mix (Q.thenA r o) n k (Q.newR n)))) (fun i _=>n-(intOf i).toNat)
 case atStart=>exact⟨0,Nat.zero_le _,rfl,by unfold Hid;have h1:=Q.zKc (Q.thenA r o) (Q.newR n);rw[hln] at h1;rw[h1];exact HS.out⟩
 case round =>
  obtain⟨k,hk,rfl,HI⟩:=hrel
  obtain⟨x2,y2,l2⟩:=zAm HI.out.c2
  obtain⟨x3,y3,l3⟩:=zAm HI.out.c3
  obtain⟨x4,y4,l4⟩:=zAm HI.out.c4
  obtain⟨x5,y5,l5⟩:=zAm HI.out.c5
  have hws:=HI.out.bl.size
  have hgl:=HI.out.gl
  have hgw:=HI.out.st.lt
  by_cases hlt:k<n
  ·have hin:(k:Int)<(n:Int):=by omega
   have HSR:Hid (zAo wr gr r):=HR.out.of_block (HI.out.bl.block gr hgr)
   have HX:=zAa (Q.zKo (Q.thenA r o) n k (Q.newR n) hlt)
   have HZ:=zAa (Q.mix_set_zero (Q.thenA r o) n k hlt)
   cases hz:((Q.ofR r (k:Int):Int)==0)
   rotate_left
   ·have HT:Hid (Q.mix (Q.thenA r o) n (k+1) (Q.newR n)=Q.mix (Q.thenA r o) n k (Q.newR n)):=by
     unfold Hid;rw[← HX.out,Q.then_zero r o k (by have:=hz;simp at this;exact_mod_cast this),HZ.out]
    go_wp2_with (first | (refine zAw (.tmp 2) rfl rfl w.heap.size _ rfl HI.out.c2 ?_) | (go_at_call 78;refine (zCW gr n r (k:Int) _ HSR.out HN.out.symm hn64).mono ?_;rintro e wa ⟨rfl,hba⟩))
    go_roundw
    case rel=>exact⟨k+1,by omega,by go_num,by unfold Hid;rw[HT.out];exact HI.out.keep hba⟩
    case measure=>simp[intOf];omega
   ·go_wp2_with (first | (refine zAw (.tmp 2) rfl rfl w.heap.size _ rfl HI.out.c2 ?_) | (go_at_call 78;refine (zCW gr n r (k:Int) _ HSR.out HN.out.symm hn64).mono ?_;rintro e wa ⟨rfl,hba⟩;have HI2:=zAa (HI.out.keep hba);obtain⟨x2,y2,l2⟩:=zAm HI2.out.c2;obtain⟨x3,y3,l3⟩:=zAm HI2.out.c3;obtain⟨x4,y4,l4⟩:=zAm HI2.out.c4;obtain⟨x5,y5,l5⟩:=zAm HI2.out.c5))
    go_loopw [25] (fun j wq=>∃ q:Nat,q≤n∧j=.int .i64 q∧Hid (FillAt w wq w1.heap.size gn n (.slice (some ⟨gr,0,none⟩) n n) (.slice (some ⟨go,0,none⟩) n n) ((Q.mix (Q.thenA r o) n k (Q.newR n)).set k ((List.range q).foldl (Q.thenB r o k) 0)))) (fun j _=>n-(intOf j).toNat)
    case atStart=>exact⟨0,Nat.zero_le _,rfl,by unfold Hid;simp only[List.range_zero,List.foldl_nil];rw[HZ.out];exact HI2.out⟩
    case round =>
     clear x2 y2 l2 x3 y3 l3 x4 y4 l4 x5 y5 l5 HI2
     obtain⟨q,hq,rfl,HJ⟩:=hrel
     obtain⟨x2,y2,l2⟩:=zAm HJ.out.c2
     obtain⟨x3,y3,l3⟩:=zAm HJ.out.c3
     obtain⟨x4,y4,l4⟩:=zAm HJ.out.c4
     obtain⟨x5,y5,l5⟩:=zAm HJ.out.c5
     have hwq:=HJ.out.bl.size
     have hgq:=HJ.out.st.lt
     by_cases hql:q<n
     ·have hqi:(q:Int)<(n:Int):=by omega
      have HSR2:Hid (zAo wr gr r):=HR.out.of_block (HJ.out.bl.block gr hgr)
      have HSO2:Hid (∀ W:World,Below wr.heap.size wr W→zAo W go o):=fun W hb=>(HO.out.of_block (HJ.out.bl.block go hgo)).below hb
      have HFS:=zAa (Q.zIm (Q.thenB r o k) 0 q)
      have hacc:(List.range q).foldl (Q.thenB r o k) 0<Q.M64:=Q.thenB_lt HFO.out k _ _ (by decide)
      generalize hA:(List.range q).foldl (Q.thenB r o k) 0=A at *
      cases hh:Q.hasR r (k:Int) (q:Int)
      ·have HB:Hid ((List.range (q+1)).foldl (Q.thenB r o k) 0=A):=by unfold Hid;rw[HFS.out];unfold Q.thenB;rw[hh];rfl
       go_wp2_with (first | (refine zAw (.tmp 2) rfl rfl w.heap.size _ rfl HJ.out.c2 ?_) | (go_at_call 75;refine (zBF gr n r _ _ _ HSR2.out HN.out.symm HFR.out).mono ?_;rintro e wb ⟨rfl,hbb⟩;rw[hh]))
       go_roundw
       case rel=>exact⟨q+1,by omega,by go_num,by unfold Hid;rw[HB.out];exact HJ.out.keep hbb⟩
       case measure=>simp[intOf];omega
      ·have HB:Hid ((List.range (q+1)).foldl (Q.thenB r o k) 0=A ||| Q.ofR o (q:Int)):=by unfold Hid;rw[HFS.out];unfold Q.thenB;rw[hh];rfl
       have hbit:=bits_or_u64_nat A (Q.ofR o (q:Int)) hacc (Q.zIW HFO.out _)
       have hkl:k<((Q.mix (Q.thenA r o) n k (Q.newR n)).set k A).length:=by rw[List.length_set,Q.zKe];exact hlt
       have cg:=HJ.out.st.cellOf k hkl
       rw[Q.set_get _ _ _ (by rw[Q.zKe];exact hlt)] at cg
       have fg:=HJ.out.st.free k
       go_wp2_with (first | (refine zAw (.tmp 2) rfl rfl w.heap.size _ rfl HJ.out.c2 ?_) | (go_at_call 75;refine (zBF gr n r _ _ _ HSR2.out HN.out.symm HFR.out).mono ?_;rintro e wb ⟨rfl,hbb⟩;rw[hh];have d3:=cfL hbb l3 x3;have d5:=cfL hbb l5 x5;have dg:=cfL hbb hgq cg;have eg:=(hbb.frozen (p:=⟨gn,k,none⟩) hgq).trans fg))
       go_region_with (first
        | (go_at_call 78;refine (zCW go n o (q:Int) _ (HSO2.out _ hbb.drew) HM.out.symm hn64).mono ?_;rintro e wc ⟨rfl,hbc⟩;have BC:Hid (Below wr.heap.size wr wc):=(hbb.drew).trans (hbc.mono (by have:=hbb.size;simp;omega));have p3:=cfL BC.out l3 x3;have p5:=cfL BC.out l5 x5;have pg:=cfL BC.out hgq cg;have qg:=(BC.out.frozen (p:=⟨gn,k,none⟩) hgq).trans fg))
       all_goals
        go_wp2
        go_roundw
        case rel=>exact⟨q+1,by omega,by go_num,by unfold Hid;rw[HB.out];have h1:=HJ.out.next BC.out k (A ||| Q.ofR o (q:Int));rw[List.set_set] at h1;exact h1⟩
        case measure=>simp[intOf];omega
     ·have hqn:q=n:=by omega
      have HN2:Hid (FillAt w wr w1.heap.size gn n (.slice (some ⟨gr,0,none⟩) n n) (.slice (some ⟨go,0,none⟩) n n) (Q.mix (Q.thenA r o) n (k+1) (Q.newR n))):=by
       have h1:=HJ.out
       have h2:Q.thenA r o k=(List.range n).foldl (Q.thenB r o k) 0:=by unfold Q.thenA;rw[HN.out]
       rw[hqn,← h2] at h1
       unfold Hid;rw[← HX.out];exact h1
      go_wp2
      go_roundw
      case rel=>exact⟨k+1,by omega,by go_num,HN2⟩
      case measure=>simp[intOf];omega
  ·have hkn:k=n:=by omega
   subst hkn
   have HF:Hid (FillAt w wr w1.heap.size gn k (.slice (some ⟨gr,0,none⟩) k k) (.slice (some ⟨go,0,none⟩) k k) (Q.thenR r o)):=by
    have h1:=HI.out
    rw[Q.zKd] at h1
    unfold Hid Q.thenR;rw[HN.out];exact h1
   obtain⟨q1,q2⟩:=HF.out.out (by rw[Q.then_len,HN.out]) (Q.fits_then HFR.out HFO.out)
   have Q1:=zAa q1
   have Q2:=zAa q2
   clear q1 q2
   go_wp2_with (first | (refine zAw (.tmp 5) rfl rfl w1.heap.size _ rfl HI.out.c5 ?_) | (refine zAU (.tmp 4) (.tmp 44) rfl rfl (w.heap.size+2) _ _ rfl rfl HI.out.c4 rfl ?_))
   refine zBv (p:=4) (w.heap.size+2) _ (by kernel_rfl) rfl Q2.out rfl Q1.out
end Go.Proofs.YtkmebkbpfmoeaaaGreat
