import Derived.Test.YtonodfjdiepglaaGreatDoorL09
set_option linter.unusedVariables false
set_option linter.unusedSimpArgs false
set_option maxHeartbeats 12800000
namespace Go.Proofs.YtonodfjdiepglaaGreatDoor
open Go Go.RowKit Go.Proofs.Tryz P Q R
set_option maxRecDepth 1000000
variable {fn:Func} {p:Tmp} {a:Act} {w w':World} {ops:Array Oper} {op:Oper} {Q:Exit->Act->World->Prop} {b5 gn n:Nat} {vo vr:Value} {l:List Nat}
open List renaming range→xF,any_append→xa,any_eq_true→xb,ext_getElem→xc
open Go.RowKit.Below renaming refl→xR,heap_alloc→x6,heap_setCell→xd
open Nat renaming zero_le→xW,le_refl→x1
open Go.Value renaming slice→x7
open Go.Exit renaming inBlock→x8
open _root_.Array renaming getElem?_eq_none→x9
theorem zIX (n:Nat):madeCells #[.int .u64 0] n=oU (aS n):=by
 apply Array.ext_getElem?;intro i;by_cases h:i<n
 ·rw[zFF _ _ (by simpa [aS] using h)];simp[madeCells,aS,h,Nat.mod_one]
 ·rw[x9 (by simpa [madeCells] using h),x9 (by simpa [oU,aS] using h)]
def mX (w w':World) (n:Nat) (l:List Nat) (e:Ending):Prop:=∃ g,e=.returned (.agg #[.slice (some ⟨g,0,none⟩) n n])/\zAo w' g l/\w.heap.size<=g/\l.length=n/\Fits l/\Below w.heap.size w w'
theorem zDj {d:TypeId} (h:fn.results=#[.cell p d]) (b:Array Value) (c:Program) (w:World) :
  (results fn b).run c w=((asAddr (b.getD p undef)).run c w).andThen fun a e=>(loadVar d a).run c e:=by
 simp only[results,h];simp[Sem.run_bind,Result.andThen]
theorem jT {R:Ending->World->Prop} (g:Nat) (v:Value) (b:fn.results=#[.cell p 73])
  (e:a.tmps.getD p undef=.pointer (some ⟨g,0,none⟩)) (h:w.heap[g]?=some (.cells #[v] 73 (0,0))) (d:a.defers=[]) (c:R (.returned (.agg #[v])) w):bodyPost prog fn R .ret a w:=by
 refine bodyPost_ret (v:=.agg #[v]) ?_ d c;rw[zDj b,e];have:(asAddr (.pointer (some ⟨g,0,none⟩))).run prog w=.ok ⟨g,0,none⟩ w:=rfl;rw[this,Result.andThen_ok,qX w g _ _ _ h _ underlying73 rfl (by kernel_rfl)]
theorem cE {g:Nat} {v:Value} {t:TypeId} (h:w.heap[g]?=some (.cells #[v] t (0,0))):w.cell? ⟨g,0,none⟩=some v/\w.frozen? ⟨g,0,none⟩=false/\g<w.heap.size:=by
 refine⟨?_,?_,(Array.getElem?_eq_some_iff.1 h).1⟩<;>simp[World.cell?,World.frozen?,h]
theorem gY {rest:List Oper} (x:Operand) (b:op.guard=none) (d:op.op=.load 73 x)
  (g:Nat) (v:Value) (e:a.eval x=.pointer (some ⟨g,0,none⟩)) (c:w.heap[g]?=some (.cells #[v] 73 (0,0)))
  (h:wpList prog ops Q rest (a.put op.dst (.agg #[v])) w):wpList prog ops Q (op::rest) a w :=
 FB b _ x d g e _ _ c _ underlying73 rfl (by kernel_rfl) h
theorem iT (n:Nat) (w:World) (d:n<=64) :
  Calls prog 74 #[.int .i64 (n:Int)] w fun e w'=>mX w w' n (aS n) e:=by
 have c:∀ w,(Instr.makeSlice 71 (.int .i64 (n:Int)) (.int .i64 (n:Int))).run prog w=.ok (.slice (some ⟨w.heap.size,0,none⟩) n n) (w.alloc (.cells (madeCells #[.int .u64 0] n) 144)):=fun w =>
  run_make_row' 71 144 (.int .u64 0) 8 underlying71 Tryz.infoSet rfl .i64 .i64 n (by omega) (by omega) w
 have f:¬ ((n:Int)<0):=by omega
 have b:decide ((n:Int)<0)=false:=by simp
 have g:¬ ((64:Int)<(n:Int)):=by omega
 go_enter func74,ntmps74;go_wp2;refine jT (p:=2) w.heap.size _ (by kernel_rfl) rfl ?_ rfl ⟨w.heap.size+1,rfl,?_,by omega,by simp[aS],kHm n d,((xR _ _).alloc (x1 _) _).alloc (by simp) _⟩
 ·rw[x6 _ _ _ (by simp)];exact heap_alloc_new w _
 ·unfold zAo;rw[<- zIX];have:=heap_alloc_new (w.alloc (.cells #[.slice (some ⟨w.heap.size+1,0,none⟩) n n] 73)) (.cells (madeCells #[.int .u64 0] n) 144);simpa using this
def kT (w:World) (b o g n:Nat) (l:List Nat):Prop:=w.cell? ⟨b,o,none⟩=some (.slice (some ⟨g,0,none⟩) n n)/\zAo w g l/\l.length=n/\b<w.heap.size/\b≠g
theorem jH (b o g n:Nat) (l:List Nat) (x y:Int) (w:World) (h:kT w b o g n l) (m:Fits l) :
  Calls prog 75 #[.pointer (some ⟨b,o,none⟩),.int .i64 x,.int .i64 y] w fun e w'=>e=.returned (.tuple #[])/\zAo w' g (bJ l x y)/\w.grownBy w' (some g):=by
 obtain⟨E,d,F,r,u⟩:=h;have t:=m.len;have s:=d.lt;by_cases h0:x<0
 ·have j:Hid (bJ l x y=l):=by unfold Hid bJ;rw[if_pos (Or.inl h0)]
  have k:=zAa d;clear d;go_enter func75,ntmps75;go_wp2
  (try simp only[x8,Exit.then]);refine bodyPost_ret (results_none rfl _ _ _) rfl ?_
  rw[j.out];exact⟨rfl,k.out,jM _ _⟩
 have z:decide (x<0)=false:=by simpa using h0
 by_cases h1:(n:Int)<=x
 ·have j:Hid (bJ l x y=l):=by unfold Hid bJ;rw[if_pos (Or.inr (Or.inl (by omega)))]
  have k:=zAa d;clear d;go_enter func75,ntmps75;go_wp2
  (try simp only[x8,Exit.then]);refine bodyPost_ret (results_none rfl _ _ _) rfl ?_
  rw[j.out];exact⟨rfl,k.out,jM _ _⟩
 have A:decide ((n:Int)<=x)=false:=by simpa using h1
 by_cases h2:(n:Int)<=y
 ·have j:Hid (bJ l x y=l):=by unfold Hid bJ;rw[if_pos (Or.inr (Or.inr (by omega)))]
  have k:=zAa d;clear d;go_enter func75,ntmps75;go_wp2
  (try simp only[x8,Exit.then]);refine bodyPost_ret (results_none rfl _ _ _) rfl ?_
  rw[j.out];exact⟨rfl,k.out,jM _ _⟩
 obtain⟨i,rfl⟩:=Int.eq_ofNat_of_zero_le (by omega:0<=x);have B:i<l.length:=by omega
 have C:(i:Int)<(n:Int):=by omega
 have c:=d.fQ i B;have f:=d.free i;have D:=bits_or_u64_nat (cJ l (i:Int)) (cY y) (hZ m _) (oK y);have j:Hid (bJ l (i:Int) y=l.set i (cJ l (i:Int) ||| cY y)):=by unfold Hid bJ;rw[if_neg (by omega)];rfl
 have k:=zAa (d.set i (cJ l (i:Int) ||| cY y));clear d m;generalize cJ l (i:Int)=v at *;go_enter func75,ntmps75;go_wp2;go_region_with (go_at_call 109;refine (xS _ _).mono ?_;rintro e G ⟨rfl,q⟩;subst q)
 all_goals
  go_end0;rw[j.out];exact⟨rfl,k.out,zEK (gD (jM _ _) _ _)⟩
namespace Q
theorem kFW {α:Type} (p:α->Bool) (l:List α) (k:Nat) (h:k<l.length):(l.take (k+1)).any p=((l.take k).any p||p l[k]):=by
 rw[List.take_succ_eq_append_getElem h,xa];simp
theorem kHT (r:List Nat):bB r=(xF r.length).any (fun i:Nat=>bR r (i:Int) (i:Int)):=rfl
theorem zR (p:Nat->Bool) (k:Nat):(xF (k+1)).any p=((xF k).any p||p k):=by
 rw[List.range_succ,xa];simp
theorem AX (p:Nat->Bool) (k n:Nat) (h:k<=n) (b:(xF k).any p=true):(xF n).any p=true:=by
 rw[xb] at b ⊢;obtain⟨x,d,c⟩:=b;exact⟨x,by simp at d ⊢;omega,c⟩
def fH (f:Nat->Nat) (n k:Nat) (t:List Nat):List Nat:=(xF n).map fun i=>if i<k then f i else t.getD i 0
theorem EG (f:Nat->Nat) (t:List Nat):fH f t.length 0 t=t:=by
 unfold fH;apply xc
 ·simp
 ·intro i b c;simp at b;simp[List.getElem?_eq_getElem b]
theorem EV (f:Nat->Nat) (n:Nat) (t:List Nat):fH f n n t=(xF n).map f:=by
 unfold fH;apply List.map_congr_left;intro i b;simp at b;simp[b]
theorem rZ (f:Nat->Nat) (n k:Nat) (t:List Nat):(fH f n k t).length=n:=by simp[fH]
theorem FJ (f:Nat->Nat) (n k:Nat) (t:List Nat) (h:k<n):(fH f n k t).set k (f k)=fH f n (k+1) t:=by
 unfold fH;apply xc
 ·simp
 ·intro i c b;simp at b;rw[List.getElem_set];by_cases hk:k=i
  ·subst hk;simp
  ·by_cases hlt:i<k
   ·simp[hk,hlt,show i<k+1 by omega]
   ·simp[hk,hlt,show ¬ i<k+1 by omega]
end Q
theorem zIY (g n:Nat) (l:List Nat) (w:World) (h:zAo w g l) (y:l.length=n) (q:Fits l) :
  Calls prog 89 #[.agg #[.slice (some ⟨g,0,none⟩) n n]] w fun e w'=>e=.returned (.bool (dH l))/\Below w.heap.size w w':=by
 have s:=q.len;have r:=h.lt;have t:=zAa h;have j:Hid (l.any (fun x=>x != 0)=dH l):=rfl;have A:=zAa y;clear h q;go_enter func89,ntmps89;go_wp2;go_loop [7] (fun i=>∃ k:Nat,k<=n/\i=.int .i64 k/\Hid ((l.take k).any (fun x=>x != 0)=false)) (fun i=>n-(intOf i).toNat)
 case atStart=>exact⟨0,xW _,rfl,by unfold Hid;simp⟩
 case round =>
  obtain⟨k,B,rfl,m⟩:=hrel;by_cases hlt:k<n
  ·have v:(k:Int)<(n:Int):=by omega
   have b:k<l.length:=by omega
   have c:=(t.out.alloc (.cells #[.slice (some ⟨g,0,none⟩) n n] 73)).cell k b;have u:=zAa (kFW (fun x=>x != 0) l k b);generalize z:l[k]=x at *;have d:Hid ((x != 0)=((x:Int) != 0)):=by unfold Hid;cases x<;>rfl
   cases hz:((x:Int) != 0)
   ·go_wp2;go_round
    case rel=>exact⟨k+1,by omega,by go_num,by unfold Hid;rw[u.out,m.out,d.out,hz];rfl⟩
    case measure=>simp[intOf];omega
   ·have f:Hid (dH l=true):=by
     unfold Hid;rw[<- j.out,xb];exact⟨x,by rw[<- z];exact List.getElem_mem b,by rw[d.out,hz]⟩
    go_wp2;go_ret;rw[f.out];exact⟨rfl,(xR _ _).alloc (x1 _) _⟩
  ·have f:Hid (dH l=false):=by
    have o:=m.out;rw[List.take_of_length_le (by omega)] at o;unfold Hid;rw[<- j.out];exact o
   go_wp2;go_ret;rw[f.out];exact⟨rfl,(xR _ _).alloc (x1 _) _⟩
theorem zFJ (g n:Nat) (l:List Nat) (w:World) (h:zAo w g l) (q:l.length=n) (o:Fits l) :
  Calls prog 88 #[.agg #[.slice (some ⟨g,0,none⟩) n n]] w fun e w'=>e=.returned (.bool (bB l))/\Below w.heap.size w w':=by
 have y:=o.len;have d:=h.lt;have A:=zAa h;have s:=zAa o;have u:=zAa q;have z:n<=64:=by omega
 have r:Hid (bB l=(xF n).any (fun i:Nat=>bR l (i:Int) (i:Int))):=by unfold Hid;rw[kHT,q]
 clear h o q;go_enter func88,ntmps88;go_wp2;go_loopw [7] (fun i wr=>∃ k:Nat,k<=n/\i=.int .i64 k/\Hid ((xF k).any (fun i:Nat=>bR l (i:Int) (i:Int))=false)/\Hid (wr.heap[w.heap.size]?=some (.cells #[.slice (some ⟨g,0,none⟩) n n] 73 (0,0)))/\Below w.heap.size w wr) (fun i _=>n-(intOf i).toNat)
 case atStart=>exact⟨0,xW _,rfl,by unfold Hid;simp,heap_alloc_new w _,(xR _ _).alloc (x1 _) _⟩
 case round =>
  obtain⟨k,F,rfl,t,HB,b⟩:=hrel;obtain⟨z0,G,E⟩:=cE HB.out;by_cases hlt:k<n
  ·have C:(k:Int)<(n:Int):=by omega
   have x:=zAa (A.out.aA (b.block g d));have v:=zAa (zR (fun i:Nat=>bR l (i:Int) (i:Int)) k);have f:=b.size
   cases hz:bR l (k:Int) (k:Int)
   ·have j:Hid ((xF (k+1)).any (fun i:Nat=>bR l (i:Int) (i:Int))=false):=by unfold Hid;rw[v.out,t.out,hz];rfl
    go_wp2_with (first | (refine gY (.tmp 1) rfl rfl w.heap.size _ rfl HB.out ?_) | (go_at_call 80;refine (oF g n l _ _ _ x.out u.out.symm s.out).mono ?_;rintro e D ⟨rfl,c⟩;rw[hz]));go_roundw
    case rel=>exact⟨k+1,by omega,by go_num,j,(c.block _ E).trans HB.out,b.trans (c.mono f)⟩
    case measure=>simp[intOf];omega
   ·have m:Hid (bB l=true):=by unfold Hid;rw[r.out];exact AX _ (k+1) n hlt (by rw[v.out,hz];simp)
    go_wp2_with (first | (refine gY (.tmp 1) rfl rfl w.heap.size _ rfl HB.out ?_) | (go_at_call 80;refine (oF g n l _ _ _ x.out u.out.symm s.out).mono ?_;rintro e D ⟨rfl,c⟩;rw[hz]));go_ret;rw[m.out];exact⟨rfl,b.trans (c.mono f)⟩
  ·have m:Hid (bB l=false):=by
    have B:=t.out;unfold Hid;rw[r.out,show n=k by omega];exact B
   go_wp2;go_ret;rw[m.out];exact⟨rfl,b⟩
structure Ew (w wr:World) (b5 gn n:Nat) (vr vo:Value) (l:List Nat):Prop where
 c2:wr.heap[w.heap.size]?=some (.cells #[vr] 73 (0,0))
 c3:wr.heap[w.heap.size+1]?=some (.cells #[vo] 73 (0,0))
 c4:wr.heap[w.heap.size+2]?=some (.cells #[.slice none 0 0] 73 (0,0))
 c5:wr.heap[b5]?=some (.cells #[.slice (some ⟨gn,0,none⟩) n n] 73 (0,0))
 st:zAo wr gn l
 bl:Below w.heap.size w wr
 gl:w.heap.size+3<=gn
 gb:gn<b5
theorem Ew.next {wr:World} (h:Ew w wr b5 gn n vr vo l) (e:Below wr.heap.size wr w') (k x:Nat):Ew w (w'.setCell ⟨gn,k,none⟩ (.int .u64 (x:Nat))) b5 gn n vr vo (l.set k x):=by
 have lt:∀ {b:Nat} {o:Obj},wr.heap[b]?=some o->b<wr.heap.size:=fun h=>(Array.getElem?_eq_some_iff.1 h).1
 have i:=h.gl;have f:=h.gb;have d:∀ {b:Nat} {o:Obj},wr.heap[b]?=some o->b≠gn->(w'.setCell ⟨gn,k,none⟩ (.int .u64 (x:Nat))).heap[b]?=some o:=fun c g=>by
  rw[xd _ _ _ _ g,e.block _ (lt c)];exact c
 exact⟨d h.c2 (by omega),d h.c3 (by omega),d h.c4 (by omega),d h.c5 (by omega),(h.st.below e).set k x,(h.bl.trans (e.mono h.bl.size)).setCell (p:=⟨gn,k,none⟩) (by simp;omega) _,i,f⟩
theorem Ew.keep {wr:World} (h:Ew w wr b5 gn n vr vo l) (e:Below wr.heap.size wr w'):Ew w w' b5 gn n vr vo l:=by
 have lt:∀ {b:Nat} {o:Obj},wr.heap[b]?=some o->b<wr.heap.size:=fun h=>(Array.getElem?_eq_some_iff.1 h).1
 have d:∀ {b:Nat} {o:Obj},wr.heap[b]?=some o->w'.heap[b]?=some o:=fun c=>by rw[e.block _ (lt c)];exact c
 exact⟨d h.c2,d h.c3,d h.c4,d h.c5,h.st.below e,h.bl.trans (e.mono h.bl.size),h.gl,h.gb⟩
theorem Ew.start {d:World} (e:zAo d gn l) (f:w.heap.size+3<=gn) (c:Below (w.heap.size+3) (((w.alloc (.cells #[vr] 73)).alloc (.cells #[vo] 73)).alloc (.cells #[.slice none 0 0] 73)) d) :
  Ew w (d.alloc (.cells #[.slice (some ⟨gn,0,none⟩) n n] 73)) d.heap.size gn n vr vo l:=by
 have i:=c.size;simp at i;have A:∀ b,b<w.heap.size+3->(d.alloc (.cells #[.slice (some ⟨gn,0,none⟩) n n] 73)).heap[b]?=(((w.alloc (.cells #[vr] 73)).alloc (.cells #[vo] 73)).alloc (.cells #[.slice none 0 0] 73)).heap[b]?:=fun b g=>by
  rw[x6 _ _ _ (by omega),c.block b g]
 refine⟨?_,?_,?_,heap_alloc_new d _,e.alloc _,?_,f,e.lt⟩
 ·rw[A _ (by omega),x6 _ _ _ (by simp;omega),x6 _ _ _ (by simp)];exact heap_alloc_new w _
 ·rw[A _ (by omega),x6 _ _ _ (by simp)];have:=heap_alloc_new (w.alloc (.cells #[vr] 73)) (.cells #[vo] 73);simpa using this
 ·rw[A _ (by omega)];have:=heap_alloc_new ((w.alloc (.cells #[vr] 73)).alloc (.cells #[vo] 73)) (.cells #[.slice none 0 0] 73);simpa using this
 ·exact (((((xR w.heap.size w).alloc (x1 _) _).alloc (by simp) _).alloc (by simp;omega) _).trans (c.mono (by omega))).alloc (by omega) _
theorem Ew.out {wr:World} (h:Ew w wr b5 gn n vr vo l) (c:l.length=n) (b:Fits l):mX w (wr.setCell ⟨w.heap.size+2,0,none⟩ (.slice (some ⟨gn,0,none⟩) n n)) n l (.returned (.agg #[.slice (some ⟨gn,0,none⟩) n n]))/\(wr.setCell ⟨w.heap.size+2,0,none⟩ (.slice (some ⟨gn,0,none⟩) n n)).heap[w.heap.size+2]?=some (.cells #[.slice (some ⟨gn,0,none⟩) n n] 73 (0,0)):=by
 have d:=h.gl;refine⟨⟨gn,rfl,h.st.aA (xd _ _ _ _ (by simp;omega)),by omega,c,b,h.bl.setCell (p:=⟨w.heap.size+2,0,none⟩) (by simp) _⟩,?_⟩;rw[bH h.c4];rfl
theorem pD {rest:List Oper} (x y:Operand) (b:op.guard=none) (d:op.op=.store 73 x y)
  (g:Nat) (v u:Value) (f:a.eval x=.pointer (some ⟨g,0,none⟩)) (i:a.eval y=.agg #[u]) (c:w.heap[g]?=some (.cells #[v] 73 (0,0))) (e:u.oneCell'=true)
  (h:wpList prog ops Q rest (a.put op.dst undef) (w.setCell ⟨g,0,none⟩ u)):wpList prog ops Q (op::rest) a w:=by
 refine wpList_store_mid b _ x y d g 0 #[u] f i (zCX c 1 (by simp)) (by kernel_rfl) (by simpa using e) ?_;simpa [World.setCells] using h
theorem zKI (j g n:Nat) (r o:List Nat) (w:World) (N:zAo w j r) (M:zAo w g o) (hn:r.length=n) (hm:o.length=n) (E:Fits r) (I:Fits o) :
  Calls prog 45 #[.agg #[.slice (some ⟨j,0,none⟩) n n],.agg #[.slice (some ⟨g,0,none⟩) n n]] w fun e w'=>mX w w' n (cS r o) e:=by
 have c:n<=64:=by have:=E.len;omega
 have HR:=zAa N;have HO:=zAa M;have A:=zAa hn;have HM:=zAa hm;have H:=N.lt;have G:=M.lt;have t:=zAa E;have s:=zAa I;clear N M hn hm E I;go_enter func45,ntmps45;go_wp2_with (first | (go_at_call 74;refine (iT n _ c).mono ?_;rintro e z ⟨gn,rfl,y,F,L,ab,q⟩;have O:=q.size;have V:=zAa (Ew.start (n:=n) y (by simpa using F) (by simpa using q));simp at O;clear y q));have aa:=V.out.gb;go_loopw [14] (fun i wr=>∃ k:Nat,k<=n/\i=.int .i64 k/\Hid (Ew w wr z.heap.size gn n (.slice (some ⟨j,0,none⟩) n n) (.slice (some ⟨g,0,none⟩) n n) (fH (fun i=>cJ r (i:Int) ||| cJ o (i:Int)) n k (aS n)))) (fun i _=>n-(intOf i).toNat)
 case atStart=>exact⟨0,xW _,rfl,by unfold Hid;have u:=EG (fun i=>cJ r (i:Int) ||| cJ o (i:Int)) (aS n);rw[L] at u;rw[u];exact V.out⟩
 case round =>
  obtain⟨k,I,rfl,b⟩:=hrel;obtain⟨S,y2,l2⟩:=cE b.out.c2;obtain⟨T,y3,l3⟩:=cE b.out.c3;obtain⟨x4,y4,l4⟩:=cE b.out.c4;obtain⟨U,y5,l5⟩:=cE b.out.c5;have ae:=b.out.bl.size;have ac:=b.out.gl;have m:=b.out.st.lt;by_cases hlt:k<n
  ·have ad:(k:Int)<(n:Int):=by omega
   have C:Hid (∀ W:World,Below wr.heap.size wr W->zAo W j r):=fun W D=>(HR.out.aA (b.out.bl.block j H)).below D
   have B:Hid (∀ W:World,Below wr.heap.size wr W->zAo W g o):=fun W D=>(HO.out.aA (b.out.bl.block g G)).below D
   have Z:=bits_or_u64_nat (cJ r (k:Int)) (cJ o (k:Int)) (hZ t.out _) (hZ s.out _);have HX:=zAa (FJ (fun i=>cJ r (i:Int) ||| cJ o (i:Int)) n k (aS n) hlt);have J:k<(fH (fun i=>cJ r (i:Int) ||| cJ o (i:Int)) n k (aS n)).length:=by rw[rZ];exact hlt
   have X:=b.out.st.cell k J;have Y:=b.out.st.free k;go_wp2;go_region_held3 (fun w'=>w'.cell? ⟨w.heap.size,0,none⟩=some (.slice (some ⟨j,0,none⟩) n n)/\w'.cell? ⟨w.heap.size+1,0,none⟩=some (.slice (some ⟨g,0,none⟩) n n)/\w'.cell? ⟨z.heap.size,0,none⟩=some (.slice (some ⟨gn,0,none⟩) n n)) (first | exact⟨S,T,U⟩ | exact⟨p2,p3,p5⟩ | exact⟨s2,s3,s5⟩ | exact⟨(bI (by omega)).trans s2,(bI (by omega)).trans s3,(bI (by omega)).trans s5⟩ | exact⟨(bI (by omega)).trans p2,(bI (by omega)).trans p3,(bI (by omega)).trans p5⟩) (first
    | (go_at_call_of 81 (x7 (some ⟨j,0,none⟩) n n);refine (oP j n r (k:Int) _ (C.out _ (by first | exact d.out | exact (xR _ _).drew)) A.out.symm c).mono ?_;rintro e wa ⟨rfl,v⟩;have f:Hid (Below wr.heap.size wr wa):=(by first | exact d.out.trans (v.mono d.out.size) | exact ((xR wr.heap.size wr).drew).trans (v.mono (by simp)));have p2:=aC f.out l2 S;have p3:=aC f.out l3 T;have p5:=aC f.out l5 U;have pg:=aC f.out m X;have qg:=(f.out.frozen (p:=⟨gn,k,none⟩) m).trans Y)
    | (go_at_call_of 81 (x7 (some ⟨g,0,none⟩) n n);refine (oP g n o (k:Int) _ (B.out _ (by first | exact f.out | exact (xR _ _).drew)) HM.out.symm c).mono ?_;rintro e wb ⟨rfl,x⟩;have d:Hid (Below wr.heap.size wr wb):=(by first | exact f.out.trans (x.mono f.out.size) | exact ((xR wr.heap.size wr).drew).trans (x.mono (by simp)));have s2:=aC d.out l2 S;have s3:=aC d.out l3 T;have s5:=aC d.out l5 U;have sg:=aC d.out m X;have tg:=(d.out.frozen (p:=⟨gn,k,none⟩) m).trans Y))
   all_goals
    go_wp2;go_roundw
    case rel=>exact⟨k+1,by omega,by go_num,by unfold Hid;rw[<- HX.out];first | exact b.out.next d.out k _ | exact b.out.next f.out k _⟩
    case measure=>simp[intOf];omega
  ·have K:k=n:=by omega
   subst K;have HF:Hid (Ew w wr z.heap.size gn k (.slice (some ⟨j,0,none⟩) k k) (.slice (some ⟨g,0,none⟩) k k) (cS r o)):=by
    have u:=b.out;rw[EV] at u;unfold Hid cS;rw[A.out];exact u
   obtain⟨q1,q2⟩:=HF.out.out (by rw[xL,A.out]) (kIO t.out s.out);have Q1:=zAa q1;have Q2:=zAa q2;clear q1 q2;go_wp2_with (first | (refine gY (.tmp 5) rfl rfl z.heap.size _ rfl b.out.c5 ?_) | (refine pD (.tmp 4) (.tmp 29) rfl rfl (w.heap.size+2) _ _ rfl rfl b.out.c4 rfl ?_));refine jT (p:=4) (w.heap.size+2) _ (by kernel_rfl) rfl Q2.out rfl Q1.out
theorem zKY (j g n:Nat) (r o:List Nat) (w:World) (N:zAo w j r) (M:zAo w g o) (hn:r.length=n) (hm:o.length=n) (E:Fits r) (I:Fits o) :
  Calls prog 77 #[.agg #[.slice (some ⟨j,0,none⟩) n n],.agg #[.slice (some ⟨g,0,none⟩) n n]] w fun e w'=>mX w w' n (fV r o) e:=by
 have c:n<=64:=by have:=E.len;omega
 have HR:=zAa N;have HO:=zAa M;have A:=zAa hn;have HM:=zAa hm;have H:=N.lt;have G:=M.lt;have t:=zAa E;have s:=zAa I;clear N M hn hm E I;go_enter func77,ntmps77;go_wp2_with (first | (go_at_call 74;refine (iT n _ c).mono ?_;rintro e z ⟨gn,rfl,y,F,L,ab,q⟩;have O:=q.size;have V:=zAa (Ew.start (n:=n) y (by simpa using F) (by simpa using q));simp at O;clear y q));have aa:=V.out.gb;go_loopw [14] (fun i wr=>∃ k:Nat,k<=n/\i=.int .i64 k/\Hid (Ew w wr z.heap.size gn n (.slice (some ⟨j,0,none⟩) n n) (.slice (some ⟨g,0,none⟩) n n) (fH (fun i=>cJ r (i:Int) &&& cJ o (i:Int)) n k (aS n)))) (fun i _=>n-(intOf i).toNat)
 case atStart=>exact⟨0,xW _,rfl,by unfold Hid;have u:=EG (fun i=>cJ r (i:Int) &&& cJ o (i:Int)) (aS n);rw[L] at u;rw[u];exact V.out⟩
 case round =>
  obtain⟨k,I,rfl,b⟩:=hrel;obtain⟨S,y2,l2⟩:=cE b.out.c2;obtain⟨T,y3,l3⟩:=cE b.out.c3;obtain⟨x4,y4,l4⟩:=cE b.out.c4;obtain⟨U,y5,l5⟩:=cE b.out.c5;have ae:=b.out.bl.size;have ac:=b.out.gl;have m:=b.out.st.lt;by_cases hlt:k<n
  ·have ad:(k:Int)<(n:Int):=by omega
   have C:Hid (∀ W:World,Below wr.heap.size wr W->zAo W j r):=fun W D=>(HR.out.aA (b.out.bl.block j H)).below D
   have B:Hid (∀ W:World,Below wr.heap.size wr W->zAo W g o):=fun W D=>(HO.out.aA (b.out.bl.block g G)).below D
   have Z:=bits_and_u64_nat (cJ r (k:Int)) (cJ o (k:Int)) (hZ t.out _) (hZ s.out _);have HX:=zAa (FJ (fun i=>cJ r (i:Int) &&& cJ o (i:Int)) n k (aS n) hlt);have J:k<(fH (fun i=>cJ r (i:Int) &&& cJ o (i:Int)) n k (aS n)).length:=by rw[rZ];exact hlt
   have X:=b.out.st.cell k J;have Y:=b.out.st.free k;go_wp2;go_region_held3 (fun w'=>w'.cell? ⟨w.heap.size,0,none⟩=some (.slice (some ⟨j,0,none⟩) n n)/\w'.cell? ⟨w.heap.size+1,0,none⟩=some (.slice (some ⟨g,0,none⟩) n n)/\w'.cell? ⟨z.heap.size,0,none⟩=some (.slice (some ⟨gn,0,none⟩) n n)) (first | exact⟨S,T,U⟩ | exact⟨p2,p3,p5⟩ | exact⟨s2,s3,s5⟩ | exact⟨(bI (by omega)).trans s2,(bI (by omega)).trans s3,(bI (by omega)).trans s5⟩ | exact⟨(bI (by omega)).trans p2,(bI (by omega)).trans p3,(bI (by omega)).trans p5⟩) (first
    | (go_at_call_of 81 (x7 (some ⟨j,0,none⟩) n n);refine (oP j n r (k:Int) _ (C.out _ (by first | exact d.out | exact (xR _ _).drew)) A.out.symm c).mono ?_;rintro e wa ⟨rfl,v⟩;have f:Hid (Below wr.heap.size wr wa):=(by first | exact d.out.trans (v.mono d.out.size) | exact ((xR wr.heap.size wr).drew).trans (v.mono (by simp)));have p2:=aC f.out l2 S;have p3:=aC f.out l3 T;have p5:=aC f.out l5 U;have pg:=aC f.out m X;have qg:=(f.out.frozen (p:=⟨gn,k,none⟩) m).trans Y)
    | (go_at_call_of 81 (x7 (some ⟨g,0,none⟩) n n);refine (oP g n o (k:Int) _ (B.out _ (by first | exact f.out | exact (xR _ _).drew)) HM.out.symm c).mono ?_;rintro e wb ⟨rfl,x⟩;have d:Hid (Below wr.heap.size wr wb):=(by first | exact f.out.trans (x.mono f.out.size) | exact ((xR wr.heap.size wr).drew).trans (x.mono (by simp)));have s2:=aC d.out l2 S;have s3:=aC d.out l3 T;have s5:=aC d.out l5 U;have sg:=aC d.out m X;have tg:=(d.out.frozen (p:=⟨gn,k,none⟩) m).trans Y))
   all_goals
    go_wp2;go_roundw
    case rel=>exact⟨k+1,by omega,by go_num,by unfold Hid;rw[<- HX.out];first | exact b.out.next d.out k _ | exact b.out.next f.out k _⟩
    case measure=>simp[intOf];omega
  ·have K:k=n:=by omega
   subst K;have HF:Hid (Ew w wr z.heap.size gn k (.slice (some ⟨j,0,none⟩) k k) (.slice (some ⟨g,0,none⟩) k k) (fV r o)):=by
    have u:=b.out;rw[EV] at u;unfold Hid fV;rw[A.out];exact u
   obtain⟨q1,q2⟩:=HF.out.out (by rw[CF,A.out]) (kLb t.out s.out);have Q1:=zAa q1;have Q2:=zAa q2;clear q1 q2;go_wp2_with (first | (refine gY (.tmp 5) rfl rfl z.heap.size _ rfl b.out.c5 ?_) | (refine pD (.tmp 4) (.tmp 29) rfl rfl (w.heap.size+2) _ _ rfl rfl b.out.c4 rfl ?_));refine jT (p:=4) (w.heap.size+2) _ (by kernel_rfl) rfl Q2.out rfl Q1.out
namespace Q
theorem kKm (b:Int):kAU 0 b=false:=by simp[kAU]
theorem kJS (r o:List Nat) (a:Nat) (h:cJ r (a:Int)=0):jG r o a=0:=by
 unfold jG;have:∀ (l:List Nat),l.foldl (iS r o a) 0=0:=by
  intro l
  induction l with
  | nil=>rfl
  | cons b q ih =>
   have e:iS r o a 0 b=0:=by unfold iS bR;rw[h,kKm];rfl
   simp only[List.foldl_cons,e];exact ih
 exact this _
theorem kLR (f:Nat->Nat) (n k:Nat) (h:k<n):(fH f n k (aS n)).getD k 0=0:=by
 rw[lV _ _ (by rw[rZ];exact h)];simp only[fH,List.getElem_map,List.getElem_range,Nat.lt_irrefl,if_false];rw[lV _ _ (by simpa [aS] using h)];simp[aS]
theorem kGT (f:Nat->Nat) (n k:Nat) (h:k<n):(fH f n k (aS n)).set k 0=fH f n k (aS n):=by
 have b:=kLR f n k h;have c:k<(fH f n k (aS n)).length:=by rw[rZ];exact h
 rw[lV _ _ c] at b;rw[<- b];exact List.set_getElem_self c
theorem kLo (l:List Nat) (k x:Nat) (h:k<l.length):cJ (l.set k x) (k:Int)=x:=by
 rw[CH _ _ (by simpa using h)];simp
end Q
theorem zKe (f t n:Nat) (r o:List Nat) (w:World) (hr:zAo w f r) (ho:zAo w t o) (hn:r.length=n) (hm:o.length=n) (V:Fits r) (Z:Fits o) :
  Calls prog 78 #[.agg #[.slice (some ⟨f,0,none⟩) n n],.agg #[.slice (some ⟨t,0,none⟩) n n]] w fun e w'=>mX w w' n (kAg r o) e:=by
 have g:n<=64:=by have:=V.len;omega
 have HR:=zAa hr;have HO:=zAa ho;have z:=zAa hn;have HM:=zAa hm;have I:=hr.lt;have Y:=ho.lt;have y:=zAa V;have x:=zAa Z;clear hr ho hn hm V Z;go_enter func78,ntmps78;go_wp2_with (first | (go_at_call 74;refine (iT n _ g).mono ?_;rintro e M ⟨gn,rfl,J,X,ac,ah,B⟩;have ae:=B.size;have HS:=zAa (Ew.start (n:=n) J (by simpa using X) (by simpa using B));simp at ae;clear J B));have ag:=HS.out.gb;go_loopw [15] (fun i wr=>∃ k:Nat,k<=n/\i=.int .i64 k/\Hid (Ew w wr M.heap.size gn n (.slice (some ⟨f,0,none⟩) n n) (.slice (some ⟨t,0,none⟩) n n) (fH (jG r o) n k (aS n)))) (fun i _=>n-(intOf i).toNat)
 case atStart=>exact⟨0,xW _,rfl,by unfold Hid;have s:=EG (jG r o) (aS n);rw[ac] at s;rw[s];exact HS.out⟩
 case round =>
  obtain⟨k,Z,rfl,c⟩:=hrel;obtain⟨x2,y2,l2⟩:=cE c.out.c2;obtain⟨N,y3,K⟩:=cE c.out.c3;obtain⟨x4,y4,l4⟩:=cE c.out.c4;obtain⟨O,y5,L⟩:=cE c.out.c5;have an:=c.out.bl.size;have ai:=c.out.gl;have aj:=c.out.st.lt;by_cases hlt:k<n
  ·have ak:(k:Int)<(n:Int):=by omega
   have G:Hid (zAo wr f r):=HR.out.aA (c.out.bl.block f I);have HX:=zAa (FJ (jG r o) n k (aS n) hlt);have HZ:=zAa (kGT (jG r o) n k hlt)
   cases hz:((cJ r (k:Int):Int)==0)
   rotate_left
   ·have HT:Hid (fH (jG r o) n (k+1) (aS n)=fH (jG r o) n k (aS n)):=by
     unfold Hid;rw[<- HX.out,kJS r o k (by have:=hz;simp at this;exact_mod_cast this),HZ.out]
    go_wp2_with (first | (refine gY (.tmp 2) rfl rfl w.heap.size _ rfl c.out.c2 ?_) | (go_at_call 81;refine (oP f n r (k:Int) _ G.out z.out.symm g).mono ?_;rintro e wa ⟨rfl,C⟩));go_roundw
    case rel=>exact⟨k+1,by omega,by go_num,by unfold Hid;rw[HT.out];exact c.out.keep C⟩
    case measure=>simp[intOf];omega
   ·go_wp2_with (first | (refine gY (.tmp 2) rfl rfl w.heap.size _ rfl c.out.c2 ?_) | (go_at_call 81;refine (oP f n r (k:Int) _ G.out z.out.symm g).mono ?_;rintro e wa ⟨rfl,C⟩;have m:=zAa (c.out.keep C);obtain⟨x2,y2,l2⟩:=cE m.out.c2;obtain⟨N,y3,K⟩:=cE m.out.c3;obtain⟨x4,y4,l4⟩:=cE m.out.c4;obtain⟨O,y5,L⟩:=cE m.out.c5));go_loopw [25] (fun j wq=>∃ q:Nat,q<=n/\j=.int .i64 q/\Hid (Ew w wq M.heap.size gn n (.slice (some ⟨f,0,none⟩) n n) (.slice (some ⟨t,0,none⟩) n n) ((fH (jG r o) n k (aS n)).set k ((xF q).foldl (iS r o k) 0)))) (fun j _=>n-(intOf j).toNat)
    case atStart=>exact⟨0,xW _,rfl,by unfold Hid;simp only[List.range_zero,List.foldl_nil];rw[HZ.out];exact m.out⟩
    case round =>
     clear x2 y2 l2 N y3 K x4 y4 l4 O y5 L m;obtain⟨q,hq,rfl,d⟩:=hrel;obtain⟨x2,y2,l2⟩:=cE d.out.c2;obtain⟨N,y3,K⟩:=cE d.out.c3;obtain⟨x4,y4,l4⟩:=cE d.out.c4;obtain⟨O,y5,L⟩:=cE d.out.c5;have am:=d.out.bl.size;have u:=d.out.st.lt;by_cases hql:q<n
     ·have al:(q:Int)<(n:Int):=by omega
      have v:Hid (zAo wr f r):=HR.out.aA (d.out.bl.block f I);have F:Hid (∀ W:World,Below wr.heap.size wr W->zAo W t o):=fun W hb=>(HO.out.aA (d.out.bl.block t Y)).below hb
      have E:=zAa (fI (iS r o k) 0 q);have H:(xF q).foldl (iS r o k) 0<M64:=kIc x.out k _ _ (by decide);generalize hA:(xF q).foldl (iS r o k) 0=A at *
      cases hh:bR r (k:Int) (q:Int)
      ·have HB:Hid ((xF (q+1)).foldl (iS r o k) 0=A):=by unfold Hid;rw[E.out];unfold iS;rw[hh];rfl
       go_wp2_with (first | (refine gY (.tmp 2) rfl rfl w.heap.size _ rfl d.out.c2 ?_) | (go_at_call 80;refine (oF f n r _ _ _ v.out z.out.symm y.out).mono ?_;rintro e wb ⟨rfl,b⟩;rw[hh]));go_roundw
       case rel=>exact⟨q+1,by omega,by go_num,by unfold Hid;rw[HB.out];exact d.out.keep b⟩
       case measure=>simp[intOf];omega
      ·have HB:Hid ((xF (q+1)).foldl (iS r o k) 0=A ||| cJ o (q:Int)):=by unfold Hid;rw[E.out];unfold iS;rw[hh];rfl
       have af:=bits_or_u64_nat A (cJ o (q:Int)) H (hZ x.out _);have aa:k<((fH (jG r o) n k (aS n)).set k A).length:=by rw[List.length_set,rZ];exact hlt
       have T:=d.out.st.fQ k aa;rw[kLo _ _ _ (by rw[rZ];exact hlt)] at T;have fg:=d.out.st.free k;go_wp2_with (first | (refine gY (.tmp 2) rfl rfl w.heap.size _ rfl d.out.c2 ?_) | (go_at_call 80;refine (oF f n r _ _ _ v.out z.out.symm y.out).mono ?_;rintro e wb ⟨rfl,b⟩;rw[hh];have d3:=aC b K N;have d5:=aC b L O;have dg:=aC b u T;have eg:=(b.frozen (p:=⟨gn,k,none⟩) u).trans fg));go_region_with (first
        | (go_at_call 81;refine (oP t n o (q:Int) _ (F.out _ b.drew) HM.out.symm g).mono ?_;rintro e wc ⟨rfl,U⟩;have D:Hid (Below wr.heap.size wr wc):=(b.drew).trans (U.mono (by have:=b.size;simp;omega));have p3:=aC D.out K N;have p5:=aC D.out L O;have pg:=aC D.out u T;have qg:=(D.out.frozen (p:=⟨gn,k,none⟩) u).trans fg))
       all_goals
        go_wp2;go_roundw
        case rel=>exact⟨q+1,by omega,by go_num,by unfold Hid;rw[HB.out];have s:=d.out.next D.out k (A ||| cJ o (q:Int));rw[List.set_set] at s;exact s⟩
        case measure=>simp[intOf];omega
     ·have ad:q=n:=by omega
      have S:Hid (Ew w wr M.heap.size gn n (.slice (some ⟨f,0,none⟩) n n) (.slice (some ⟨t,0,none⟩) n n) (fH (jG r o) n (k+1) (aS n))):=by
       have s:=d.out;have h2:jG r o k=(xF n).foldl (iS r o k) 0:=by unfold jG;rw[z.out]
       rw[ad,<- h2] at s;unfold Hid;rw[<- HX.out];exact s
      go_wp2;go_roundw
      case rel=>exact⟨k+1,by omega,by go_num,S⟩
      case measure=>simp[intOf];omega
  ·have ab:k=n:=by omega
   subst ab;have HF:Hid (Ew w wr M.heap.size gn k (.slice (some ⟨f,0,none⟩) k k) (.slice (some ⟨t,0,none⟩) k k) (kAg r o)):=by
    have s:=c.out;rw[EV] at s;unfold Hid kAg;rw[z.out];exact s
   obtain⟨q1,q2⟩:=HF.out.out (by rw[EO,z.out]) (kJv y.out x.out);have Q1:=zAa q1;have Q2:=zAa q2;clear q1 q2;go_wp2_with (first | (refine gY (.tmp 5) rfl rfl M.heap.size _ rfl c.out.c5 ?_) | (refine pD (.tmp 4) (.tmp 44) rfl rfl (w.heap.size+2) _ _ rfl rfl c.out.c4 rfl ?_));refine jT (p:=4) (w.heap.size+2) _ (by kernel_rfl) rfl Q2.out rfl Q1.out
end Go.Proofs.YtonodfjdiepglaaGreatDoor
