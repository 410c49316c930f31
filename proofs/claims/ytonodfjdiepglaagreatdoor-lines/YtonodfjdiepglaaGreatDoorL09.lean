import Derived.Laws.Bits64b
import Derived.Deep.RegionWith
import Derived.BigQuiet
import Derived.Deep.QuietTactic
import Derived.Deep.OwnRows
import Derived.Test.YtonodfjdiepglaaGreatDoorL08
set_option linter.unusedVariables false
set_option linter.unusedSimpArgs false
set_option maxHeartbeats 12800000
namespace Go.Proofs.YtonodfjdiepglaaGreatDoor
open Go Go.RowKit Go.Proofs.Tryz P R
set_option maxRecDepth 1000000
variable {a b g:Nat} {c l o r:List Nat} {α:Type} {w w':World}
open Go.RowKit.Below renaming refl→xF
open Nat renaming le_refl→xR
open List renaming range→xW,mem_map→x2
open Go.Value renaming agg→x1
namespace Q
def cY (i:Int):Nat:=if i<0\/64<=i then 0 else 2 ^ i.toNat
def kAU (s:Nat) (i:Int):Bool:=(s &&& cY i) != 0
def kBu (s:Nat) (n:Int):Nat:=if n<0\/64<=n then 0 else s*2 ^ n.toNat % 18446744073709551616
def cJ (r:List Nat) (a:Int):Nat:=if a<0 then 0 else r.getD a.toNat 0
def bR (r:List Nat) (a b:Int):Bool:=kAU (cJ r a) b
def aS (n:Nat):List Nat:=List.replicate n 0
def bJ (r:List Nat) (a b:Int):List Nat:=if a<0\/(r.length:Int)<=a\/(r.length:Int)<=b then r else r.set a.toNat (cJ r a ||| cY b)
def cS (r o:List Nat):List Nat:=(xW r.length).map fun i:Nat=>cJ r (i:Int) ||| cJ o (i:Int)
def fV (r o:List Nat):List Nat:=(xW r.length).map fun i:Nat=>cJ r (i:Int) &&& cJ o (i:Int)
def mO (r:List Nat) (a:Nat) (t:List Nat) (b:Nat):List Nat:=if bR r a b then bJ t b a else t
def oE (r:List Nat) (t:List Nat) (a:Nat):List Nat:=(xW r.length).foldl (mO r a) t
def kU (r:List Nat):List Nat:=(xW r.length).foldl (oE r) (aS r.length)
def iS (r next:List Nat) (a:Nat) (acc:Nat) (b:Nat):Nat:=if bR r a b then acc ||| cJ next b else acc
def jG (r next:List Nat) (a:Nat):Nat:=(xW r.length).foldl (iS r next a) 0
def kAg (r next:List Nat):List Nat:=(xW r.length).map (jG r next)
def iJ (b:Nat) (c:List Nat) (a:Nat):List Nat:=if bR c a b then c.set a (cJ c a ||| cJ c b) else c
def jR (n:Nat) (c:List Nat) (b:Nat):List Nat:=(xW n).foldl (iJ b) c
def jD (r:List Nat):List Nat:=(xW r.length).foldl (jR r.length) (cS r r)
def dH (r:List Nat):Bool:=r.any fun x=>x != 0
def bB (r:List Nat):Bool:=(xW r.length).any fun i:Nat=>bR r (i:Int) (i:Int)
def cK (r:List Nat):Bool:=bB (jD r)
abbrev M64:Nat:=18446744073709551616
structure Fits (r:List Nat):Prop where
 len:r.length<=64
 lt:∀ x∈r,x<M64
theorem oK (i:Int):cY i<M64:=by
 unfold cY
 split
 ·decide
 ·have:i.toNat<=63:=by omega
  exact Nat.lt_of_le_of_lt (Nat.pow_le_pow_right (by omega) this) (by decide)
theorem mM (d:a<M64) (e:b<M64):a ||| b<M64:=Nat.or_lt_two_pow (n:=64) d e
theorem kMk (d:b<M64):a &&& b<M64:=Nat.and_lt_two_pow (n:=64) a d
theorem kKw (s:Nat) (n:Int):kBu s n<M64:=by
 unfold kBu
 split
 ·decide
 ·exact Nat.mod_lt _ (by decide)
theorem lV (r:List Nat) (i:Nat) (h:i<r.length):r.getD i 0=r[i]:=by simp[List.getD,List.getElem?_eq_getElem h]
theorem nJ (r:List Nat) (i:Nat) (h:r.length<=i):r.getD i 0=0:=by simp[List.getD,List.getElem?_eq_none h]
theorem hZ (h:Fits r) (a:Int):cJ r a<M64:=by
 unfold cJ
 split
 ·decide
 ·by_cases hl:a.toNat<r.length
  ·rw[lV _ _ hl];exact h.lt _ (List.getElem_mem hl)
  ·rw[nJ _ _ (by omega)];decide
theorem nF (r:List Nat) (i:Nat):cJ r (i:Int)=r.getD i 0:=by
 unfold cJ;rw[if_neg (by omega)];rfl
theorem CH (r:List Nat) (i:Nat) (h:i<r.length):cJ r (i:Int)=r[i]:=by
 rw[nF,lV _ _ h]
theorem zPD (r:List Nat) (a:Int) (h:a<0\/(r.length:Int)<=a):cJ r a=0:=by
 unfold cJ
 split
 ·rfl
 ·rw[nJ _ _ (by omega)]
theorem kHm (n:Nat) (h:n<=64):Fits (aS n):=⟨by simpa [aS] using h,fun x d=>by rw[List.eq_of_mem_replicate d];decide⟩
theorem DF (h:Fits r) (i x:Nat) (e:x<M64):Fits (r.set i x) :=
 ⟨by simpa using h.len,fun y d=>by rcases List.mem_or_eq_of_mem_set d with d | rfl;exact h.lt _ d;exact e⟩
theorem jX (r:List Nat) (a b:Int):(bJ r a b).length=r.length:=by unfold bJ;split<;>simp
theorem lG (h:Fits r) (a b:Int):Fits (bJ r a b):=by
 unfold bJ
 split
 ·exact h
 ·exact DF h _ _ (mM (hZ h _) (oK _))
theorem xL (r o:List Nat):(cS r o).length=r.length:=by simp[cS]
theorem CF (r o:List Nat):(fV r o).length=r.length:=by simp[fV]
theorem EO (r o:List Nat):(kAg r o).length=r.length:=by simp[kAg]
theorem kIO (h:Fits r) (k:Fits o):Fits (cS r o) :=
 ⟨by rw[xL];exact h.len,fun x d=>by simp only[cS,x2] at d;obtain⟨i,_,rfl⟩:=d;exact mM (hZ h _) (hZ k _)⟩
theorem kLb (h:Fits r) (k:Fits o):Fits (fV r o) :=
 ⟨by rw[CF];exact h.len,fun x d=>by simp only[fV,x2] at d;obtain⟨i,_,rfl⟩:=d;exact kMk (hZ k _)⟩
theorem kIc (k:Fits o) (a:Nat) (l:List Nat):∀ d,d<M64->l.foldl (iS r o a) d<M64:=by
 induction l with
 | nil=>intro d h;exact h
 | cons b q ih =>
  intro d h;refine ih _ ?_;unfold iS;split
  ·exact mM h (hZ k _)
  ·exact h
theorem kJv (h:Fits r) (k:Fits o):Fits (kAg r o) :=
 ⟨by rw[EO];exact h.len,fun x d=>by simp only[kAg,x2] at d;obtain⟨i,_,rfl⟩:=d;exact kIc k _ _ _ (by decide)⟩
theorem fI (f:α->Nat->α) (x:α) (n:Nat):(xW (n+1)).foldl f x=f ((xW n).foldl f x) n:=by
 rw[List.range_succ,List.foldl_append];rfl
theorem kFD (b:Nat) (c:List Nat) (a:Nat):(iJ b c a).length=c.length:=by unfold iJ;split<;>simp
theorem kHx (h:Fits c) (b a:Nat):Fits (iJ b c a):=by
 unfold iJ;split
 ·exact DF h _ _ (mM (hZ h _) (hZ h _))
 ·exact h
theorem wK (P:α->Prop) (f:α->Nat->α) (d:∀ x i,P x->P (f x i)) (l:List Nat):∀ x,P x->P (l.foldl f x):=by
 induction l with
 | nil=>intro x h;exact h
 | cons i q ih=>intro x h;exact ih _ (d _ _ h)
theorem kJw (n m b:Nat) (h:Fits c/\c.length=m):Fits (jR n c b)/\(jR n c b).length=m :=
 wK (fun c=>Fits c/\c.length=m) _ (fun x i d=>⟨kHx d.1 _ _,by rw[kFD];exact d.2⟩) _ _ h
theorem kJO (h:Fits r):Fits (jD r)/\(jD r).length=r.length :=
 wK (fun c=>Fits c/\c.length=r.length) _ (fun x i d=>kJw _ _ _ d) _ _ ⟨kIO h h,xL _ _⟩
theorem kLe (r:List Nat) (a m:Nat) {t:List Nat} (h:Fits t/\t.length=m):Fits (oE r t a)/\(oE r t a).length=m :=
 wK (fun c=>Fits c/\c.length=m) _ (fun x i d=>by unfold mO;split;exact⟨lG d.1 _ _,by rw[jX];exact d.2⟩;exact d) _ _ h
theorem kJU (h:r.length<=64):Fits (kU r)/\(kU r).length=r.length :=
 wK (fun c=>Fits c/\c.length=r.length) _ (fun x i d=>kLe _ _ _ d) _ _ ⟨kHm _ h,by simp[aS]⟩
end Q
theorem Tryz.infoSet:(prog.info? 144).map (fun i=>(i.zero,i.size,i.bytes))=some (some (.int .u64 0),1,8):=by kernel_rfl
theorem zKc (n:Nat) (h:n<64):IntKind.u64.wrap ((2:Int) ^ n)=((2 ^ n:Nat):Int):=by
 have d:(2:Nat) ^ n<2 ^ 64:=Nat.pow_lt_pow_right (by omega) h;have e:((2:Int) ^ n)=((2 ^ n:Nat):Int):=by push_cast;rfl
 rw[e];have f:(2:Nat) ^ n<=18446744073709551615:=Nat.le_of_lt_succ d;exact IntWalk.u64_in _ ⟨Int.natCast_nonneg _,Int.ofNat_le.2 f⟩
theorem xS (i:Int) (w:World) :
  Calls prog 109 #[.int .i64 i] w fun e w'=>e=.returned (.int .u64 (Q.cY i:Nat))/\w'=w:=by
 by_cases h0:i<0
 ·have d:Hid (Q.cY i=0):=by unfold Hid Q.cY;rw[if_pos (Or.inl h0)]
  go_enter func109,ntmps109;go_wp2;go_ret;rw[d.out];exact⟨rfl,rfl⟩
 by_cases h1:64<=i
 ·have d:Hid (Q.cY i=0):=by unfold Hid Q.cY;rw[if_pos (Or.inr h1)]
  go_enter func109,ntmps109;go_wp2;go_ret;rw[d.out];exact⟨rfl,rfl⟩
 ·have d:Hid (IntKind.u64.wrap ((2:Int) ^ i.toNat)=(Q.cY i:Nat)):=by unfold Hid Q.cY;rw[if_neg (by omega)];exact zKc _ (by omega)
  go_enter func109,ntmps109;go_wp2;go_ret;exact⟨by first | (rw[<- d.out];rfl) | (simp;exact d.out),rfl⟩
theorem zHd (s:Nat) (i:Int) (w:World) (j:s<Q.M64) :
  Calls prog 110 #[.int .u64 (s:Nat),.int .i64 i] w fun e w'=>e=.returned (.bool (Q.kAU s i))/\w'=w:=by
 have k:=bits_and_u64_nat s (Q.cY i) j (Q.oK i);have f:Hid (Q.kAU s i=((s &&& Q.cY i) != 0)):=rfl;generalize (s &&& Q.cY i)=x at *;have d:Hid ((x != 0)=((x:Int) != 0)):=by unfold Hid;cases x<;>rfl
 cases hx:((x:Int) != 0)
 all_goals
  go_enter func110,ntmps110;go_wp2_with (first | (go_at_call 109;refine (xS _ _).mono ?_;rintro e w' ⟨rfl,rfl⟩));go_ret;refine⟨?_,rfl⟩;rw[f.out,d.out,hx]
  first | rfl | simp
theorem zIQ (s:Nat) (i:Int) (w:World) (f:s<Q.M64) :
  Calls prog 123 #[.int .u64 (s:Nat),.int .i64 i] w fun e w'=>e=.returned (.int .u64 (Q.kBu s i:Nat))/\w'=w:=by
 by_cases h0:i<0
 ·have d:Hid (Q.kBu s i=0):=by unfold Hid Q.kBu;rw[if_pos (Or.inl h0)]
  go_enter func123,ntmps123;go_wp2;go_ret;rw[d.out];exact⟨rfl,rfl⟩
 by_cases h1:64<=i
 ·have d:Hid (Q.kBu s i=0):=by unfold Hid Q.kBu;rw[if_pos (Or.inr h1)]
  go_enter func123,ntmps123;go_wp2;go_ret;rw[d.out];exact⟨rfl,rfl⟩
 ·have d:Hid (IntKind.u64.wrap ((s:Int)*(2:Int) ^ i.toNat)=(Q.kBu s i:Nat)):=by
   unfold Hid Q.kBu;rw[if_neg (by omega),IntKind.wrap_u64,Int.natCast_emod,Int.natCast_mul,Int.natCast_pow];rfl
  go_enter func123,ntmps123;go_wp2;go_ret;exact⟨by first | (rw[<- d.out];rfl) | (simp;exact d.out),rfl⟩
def oU (l:List Nat):Array Value:=(l.map fun x=>Value.int .u64 (x:Nat)).toArray
theorem zFF (l:List Nat) (i:Nat) (h:i<l.length):(oU l)[i]?=some (.int .u64 (l[i]:Nat)):=by simp[oU,h]
theorem zIR (l:List Nat) (i x:Nat):(oU l).setIfInBounds i (.int .u64 (x:Nat))=oU (l.set i x):=by
 simp[oU,List.map_set]
def zAo (w:World) (g:Nat) (l:List Nat):Prop:=w.heap[g]?=some (.cells (oU l) 144 (0,0))
theorem zAo.lt (h:zAo w g l):g<w.heap.size:=(Array.getElem?_eq_some_iff.1 h).1
theorem zAo.aA (h:zAo w g l) (e:w'.heap[g]?=w.heap[g]?):zAo w' g l:=by unfold zAo at *;rw[e];exact h
theorem zAo.below (h:zAo w g l) (d:Below w.heap.size w w'):zAo w' g l:=h.aA (d.block g h.lt)
theorem zAo.alloc (h:zAo w g l) (o:Obj):zAo (w.alloc o) g l:=h.aA (Below.heap_alloc _ _ _ h.lt)
theorem zAo.cell (h:zAo w g l) (i:Nat) (d:i<l.length):w.cell? ⟨g,i,none⟩=some (.int .u64 (l[i]:Nat)):=by
 unfold zAo at h;simp only[World.cell?,h];exact zFF l i d
theorem zAo.fQ (h:zAo w g l) (i:Nat) (d:i<l.length):w.cell? ⟨g,i,none⟩=some (.int .u64 (Q.cJ l (i:Int):Nat)):=by
 rw[Q.CH l i d];exact h.cell i d
theorem zAo.free (h:zAo w g l) (i:Nat):w.frozen? ⟨g,i,none⟩=false:=by
 unfold zAo at h;simp[World.frozen?,h]
theorem zAo.set (h:zAo w g l) (i x:Nat):zAo (w.setCell ⟨g,i,none⟩ (.int .u64 (x:Nat))) g (l.set i x):=by
 unfold zAo at *;rw[bH h,zIR]
theorem oP (g n:Nat) (l:List Nat) (a:Int) (w:World) (h:zAo w g l) (p:n=l.length) (q:n<=64) :
  Calls prog 81 #[.agg #[.slice (some ⟨g,0,none⟩) n n],.int .i64 a] w fun e w'=>e=.returned (.int .u64 (Q.cJ l a:Nat))/\Below w.heap.size w w':=by
 have f:=h.lt;by_cases h0:a<0
 ·have d:Hid (Q.cJ l a=0):=Q.zPD l a (Or.inl h0);clear h;go_enter func81,ntmps81;go_wp2;go_ret;rw[d.out];exact⟨rfl,(xF _ _).alloc (xR _) _⟩
 have j:decide (a<0)=false:=by simpa using h0
 by_cases h1:(n:Int)<=a
 ·have d:Hid (Q.cJ l a=0):=Q.zPD l a (Or.inr (by omega));clear h;go_enter func81,ntmps81;go_wp2;go_ret;rw[d.out];exact⟨rfl,(xF _ _).alloc (xR _) _⟩
 ·obtain⟨i,rfl⟩:=Int.eq_ofNat_of_zero_le (by omega:0<=a);have k:i<l.length:=by omega
  have c:=h.fQ i k;have m:(i:Int)<(n:Int):=by omega
  clear h p;generalize Q.cJ l (i:Int)=x at *;go_enter func81,ntmps81;go_wp2;go_ret;exact⟨rfl,(xF _ _).alloc (xR _) _⟩
theorem oF (g n:Nat) (l:List Nat) (a b:Int) (w:World) (h:zAo w g l) (k:n=l.length) (d:Q.Fits l) :
  Calls prog 80 #[.agg #[.slice (some ⟨g,0,none⟩) n n],.int .i64 a,.int .i64 b] w fun e w'=>e=.returned (.bool (Q.bR l a b))/\Below w.heap.size w w':=by
 have j:=d.len;have p:=zAa d;have m:=zAa (h.alloc (.cells #[.slice (some ⟨g,0,none⟩) n n] 73));have f:=zAa k;have i:=h.lt;clear d h k;go_enter func80,ntmps80;go_wp2_with (first
  | (go_at_call 81;refine (oP g n l a _ m.out f.out (by have:=f.out;omega)).mono ?_;rintro e s ⟨rfl,q⟩)
  | (go_at_call 110;refine (zHd _ _ _ (Q.hZ p.out a)).mono ?_;rintro e w' ⟨rfl,rfl⟩))
 go_ret;exact⟨rfl,((xF _ _).alloc (xR _) _).trans (q.mono (by simp))⟩
namespace P
def kBE (k:Int):Bool:=k==0||k==1||k==2||k==3
def kEw (k:Int):Bool:=k==6||k==7||k==8||k==9
end P
namespace Q
structure Ev where
 kind:Int
 thread:Int
 block:Int
 var:Int
 value:Int
 order:Int
 scope:Int
 bars:Int
 step:Bool
 Ef:Nat
def Ev.zero:Ev:=⟨0,0,0,0,0,0,0,0,false,0⟩
def zNz (e:Ev):Bool:=e.kind==0||e.kind==1
def kAC (e:Ev):Bool:=e.kind==2&&e.order==5
def zMl (i:Int) (a:Ev) (k:Int) (b:Ev):Bool:=if a.thread == -1 then b.thread != -1 else a.thread==b.thread&&decide (i<k)
def dV (e:Ev):Bool:=e.order != 0&&e.kind != 3&&e.kind != 4
def strong (a b:Ev):Bool :=
 if a.thread == -1||b.thread == -1 then false else if a.thread==b.thread then true else if !dV a||!dV b then false else a.block==b.block||(a.scope==1&&b.scope==1)
def zMG (a b:Ev):Bool:=a.kind==3&&b.kind==4&&a.block==b.block&&a.bars==b.bars
end Q
def aI (e:Q.Ev):Array Value:=#[.int .i64 e.kind,.int .i64 e.thread,.int .i64 e.block,.int .i64 e.var,.int .i64 e.value,.int .i64 e.order,.int .i64 e.scope,.int .i64 e.bars,.bool e.step,.int .u64 (e.Ef:Nat)]
theorem zV (e:Q.Ev) (w:World) :
  Calls prog 125 #[.agg (aI e)] w fun x w'=>x=.returned (.bool (Q.zNz e))/\Below w.heap.size w w':=by
 cases h0:(e.kind==0)
 ·cases h1:(e.kind==1)
  all_goals
   have d:Hid (Q.zNz e=(e.kind==1)):=by unfold Hid Q.zNz;rw[h0];rfl
   simp only[aI];go_enter func125,ntmps125;go_wp2;go_ret;rw[d.out,h1];exact⟨rfl,(xF _ _).alloc (xR _) _⟩
 ·have d:Hid (Q.zNz e=true):=by unfold Hid Q.zNz;rw[h0];rfl
  simp only[aI];go_enter func125,ntmps125;go_wp2;go_ret;rw[d.out];exact⟨rfl,(xF _ _).alloc (xR _) _⟩
theorem yK (e:Q.Ev) (w:World) :
  Calls prog 82 #[.agg (aI e)] w fun x w'=>x=.returned (.bool (Q.kAC e))/\Below w.heap.size w w':=by
 cases h0:(e.kind==2)
 ·have d:Hid (Q.kAC e=false):=by unfold Hid Q.kAC;rw[h0];rfl
  simp only[aI];go_enter func82,ntmps82;go_wp2;go_ret;rw[d.out];exact⟨rfl,(xF _ _).alloc (xR _) _⟩
 ·cases h1:(e.order==5)
  all_goals
   have d:Hid (Q.kAC e=(e.order==5)):=by unfold Hid Q.kAC;rw[h0];rfl
   simp only[aI];go_enter func82,ntmps82;go_wp2;go_ret;rw[d.out,h1];exact⟨rfl,(xF _ _).alloc (xR _) _⟩
theorem zGs (i k:Int) (a b:Q.Ev) (w:World) :
  Calls prog 124 #[.int .i64 i,.agg (aI a),.int .i64 k,.agg (aI b)] w fun x w'=>x=.returned (.bool (Q.zMl i a k b))/\Below w.heap.size w w':=by
 have HB:Hid (∀ o p,Below w.heap.size w ((w.alloc o).alloc p)):=fun o p=>((xF _ _).alloc (xR _) _).alloc (by simp) _
 cases h0:(a.thread == -1)
 ·cases h1:(a.thread==b.thread)
  ·have d:Hid (Q.zMl i a k b=false):=by unfold Hid Q.zMl;rw[h0,h1];rfl
   simp only[aI];go_enter func124,ntmps124;go_wp2;go_ret;rw[d.out];exact⟨rfl,HB.out _ _⟩
  ·by_cases h2:i<k
   ·have d:Hid (Q.zMl i a k b=true):=by unfold Hid Q.zMl;rw[h0,h1,decide_eq_true h2];rfl
    simp only[aI];go_enter func124,ntmps124;go_wp2;go_ret;rw[d.out];exact⟨rfl,HB.out _ _⟩
   ·have d:Hid (Q.zMl i a k b=false):=by unfold Hid Q.zMl;rw[h0,h1,decide_eq_false h2];rfl
    have e:decide (i<k)=false:=decide_eq_false h2;simp only[aI];go_enter func124,ntmps124;go_wp2;go_ret;rw[d.out];exact⟨rfl,HB.out _ _⟩
 ·cases h1:(b.thread != -1)
  all_goals
   have d:Hid (Q.zMl i a k b=(b.thread != -1)):=by unfold Hid Q.zMl;rw[h0];rfl
   simp only[aI];go_enter func124,ntmps124;go_wp2;go_ret;rw[d.out,h1];exact⟨rfl,HB.out _ _⟩
theorem uW (e:Q.Ev) (w:World) :
  Calls prog 145 #[.agg (aI e)] w fun x w'=>x=.returned (.bool (Q.dV e))/\Below w.heap.size w w':=by
 have HB:Hid (∀ o,Below w.heap.size w (w.alloc o)):=fun o=>(xF _ _).alloc (xR _) _
 cases h0:(e.order != 0)<;>cases h1:(e.kind != 3)<;>cases h2:(e.kind != 4)
 all_goals
  have d:Hid (Q.dV e=((e.order != 0)&&(e.kind != 3)&&(e.kind != 4))):=rfl;simp only[aI];go_enter func145,ntmps145;go_wp2;go_ret;rw[d.out,h0,h1,h2];exact⟨rfl,HB.out _⟩
theorem zIS {a b:Q.Ev} (h:(a.thread == -1||b.thread == -1)=true):Q.strong a b=false:=by unfold Q.strong;rw[h];rfl
theorem zGt {a b:Q.Ev} (h:(a.thread == -1||b.thread == -1)=false) (d:(a.thread==b.thread)=true):Q.strong a b=true:=by unfold Q.strong;rw[h,d];rfl
theorem zEl {a b:Q.Ev} (h:(a.thread == -1||b.thread == -1)=false) (d:(a.thread==b.thread)=false) (e:(!Q.dV a||!Q.dV b)=true):Q.strong a b=false:=by unfold Q.strong;rw[h,d,e];rfl
theorem zGu {a b:Q.Ev} (h:(a.thread == -1||b.thread == -1)=false) (d:(a.thread==b.thread)=false) (e:(!Q.dV a||!Q.dV b)=false):Q.strong a b=(a.block==b.block||(a.scope==1&&b.scope==1)):=by unfold Q.strong;rw[h,d,e];rfl
theorem zHK (a b:Q.Ev) (w:World) :
  Calls prog 127 #[.agg (aI a),.agg (aI b)] w fun x w'=>x=.returned (.bool (Q.zMG a b))/\Below w.heap.size w w':=by
 have HB:Hid (∀ o p,Below w.heap.size w ((w.alloc o).alloc p)):=fun o p=>((xF _ _).alloc (xR _) _).alloc (by simp) _
 cases h0:(a.kind==3)<;>cases h1:(b.kind==4)<;>cases h2:(a.block==b.block)<;>cases h3:(a.bars==b.bars)
 all_goals
  have d:Hid (Q.zMG a b=((a.kind==3)&&(b.kind==4)&&(a.block==b.block)&&(a.bars==b.bars))):=rfl;simp only[aI];go_enter func127,ntmps127;go_wp2;go_ret;rw[d.out,h0,h1,h2,h3];exact⟨rfl,HB.out _ _⟩
namespace P
def acq (o:Int):Bool:=o==2||o==4
def rel (o:Int):Bool:=o==3||o==4
end P
theorem zKW (k:Int) (w:World) :
  Calls prog 147 #[.int .i64 k] w fun e w'=>e=.returned (.bool (acq k))/\w'=w:=by
 go_enter func147,ntmps147;go_wp2
 all_goals go_ret
 all_goals simp[acq, *]
theorem zKX (k:Int) (w:World) :
  Calls prog 146 #[.int .i64 k] w fun e w'=>e=.returned (.bool (P.rel k))/\w'=w:=by
 go_enter func146,ntmps146;go_wp2
 all_goals go_ret
 all_goals simp[P.rel, *]
def zAP (w:World) (g:Nat) (e:Q.Ev):Prop:=w.heap[g]?=some (.cells (aI e) 146 (0,0))
theorem zAP.lt {e:Q.Ev} (h:zAP w g e):g<w.heap.size:=(Array.getElem?_eq_some_iff.1 h).1
theorem zAP.below {e:Q.Ev} (h:zAP w g e) (d:Below w.heap.size w w'):zAP w' g e:=by unfold zAP at *;rw[d.block g (Array.getElem?_eq_some_iff.1 h).1];exact h
theorem zAP.alloc {e:Q.Ev} (h:zAP w g e) (o:Obj):zAP (w.alloc o) g e:=h.below ((xF _ _).alloc (xR _) _)
theorem zAP.bT (w:World) (e:Q.Ev):zAP (w.alloc (.cells (aI e) 146)) w.heap.size e:=heap_alloc_new w _
theorem zAP.facts {e:Q.Ev} (h:zAP w g e):w.cell? ⟨g,0,none⟩=some (.int .i64 e.kind)/\w.cell? ⟨g,1,none⟩=some (.int .i64 e.thread)/\w.cell? ⟨g,2,none⟩=some (.int .i64 e.block)/\w.cell? ⟨g,3,none⟩=some (.int .i64 e.var)/\w.cell? ⟨g,4,none⟩=some (.int .i64 e.value)/\w.cell? ⟨g,5,none⟩=some (.int .i64 e.order)/\w.cell? ⟨g,6,none⟩=some (.int .i64 e.scope)/\w.cell? ⟨g,7,none⟩=some (.int .i64 e.bars)/\w.cell? ⟨g,8,none⟩=some (.bool e.step)/\w.cell? ⟨g,9,none⟩=some (.int .u64 (e.Ef:Nat))/\(∀ j,w.frozen? ⟨g,j,none⟩=false)/\g<w.heap.size:=by
 unfold zAP at h;refine⟨?_,?_,?_,?_,?_,?_,?_,?_,?_,?_,?_,(Array.getElem?_eq_some_iff.1 h).1⟩
 all_goals first | (intro j;simp[World.frozen?,h]) | simp[World.cell?,h,aI]
theorem zHL (a b:Q.Ev) (w:World) :
  Calls prog 126 #[.agg (aI a),.agg (aI b)] w fun x w'=>x=.returned (.bool (Q.strong a b))/\Below w.heap.size w w':=by
 have HB:Hid (Below w.heap.size w ((w.alloc (.cells (aI a) 146)).alloc (.cells (aI b) 146))):=((xF _ _).alloc (xR _) _).alloc (by simp) _;have U:Hid (zAP ((w.alloc (.cells (aI a) 146)).alloc (.cells (aI b) 146)) w.heap.size a):=(zAP.bT w a).alloc _;have V:Hid (zAP ((w.alloc (.cells (aI a) 146)).alloc (.cells (aI b) 146)) (w.heap.size+1) b):=by
  have:=zAP.bT (w.alloc (.cells (aI a) 146)) b;simpa [Hid] using this
 cases h0:(a.thread == -1||b.thread == -1)
 rotate_left
 ·have j:=zAa (zIS h0)
  cases W:(a.thread == -1)
  ·have Y:(b.thread == -1)=true:=by rw[W] at h0;exact h0
   simp only[aI];go_enter func126,ntmps126;go_wp2;go_ret;rw[j.out];exact⟨rfl,HB.out⟩
  ·simp only[aI];go_enter func126,ntmps126;go_wp2;go_ret;rw[j.out];exact⟨rfl,HB.out⟩
 have W:(a.thread == -1)=false:=(Bool.or_eq_false_iff.1 h0).1;have Y:(b.thread == -1)=false:=(Bool.or_eq_false_iff.1 h0).2
 cases h3:(a.thread==b.thread)
 rotate_left
 ·have j:=zAa (zGt h0 h3);clear h0;simp only[aI];go_enter func126,ntmps126;go_wp2;go_ret;rw[j.out];exact⟨rfl,HB.out⟩
 cases ha:Q.dV a
 ·have j:=zAa (zEl h0 h3 (by rw[ha];rfl));clear h0;simp only[aI];go_enter func126,ntmps126;go_wp2_with (first | (go_at_call_of 145 (x1 #[.int .i64 a.kind,.int .i64 a.thread,.int .i64 a.block,.int .i64 a.var,.int .i64 a.value,.int .i64 a.order,.int .i64 a.scope,.int .i64 a.bars,.bool a.step,.int .u64 (a.Ef:Nat)]);refine (uW a _).mono ?_;rintro x X ⟨rfl,d⟩;rw[ha];have e:=zAa (U.out.below d);have f:=zAa (V.out.below d);have k:=zAa (HB.out.trans (d.mono (by simp;omega)));obtain⟨p,q,s,t,u,v,y,z,A,B,C,D⟩:=e.out.facts;obtain⟨E,F,G,H,I,J,K,L,M,N,O,S⟩:=f.out.facts));go_ret;rw[j.out];exact⟨rfl,k.out⟩
 cases hb:Q.dV b
 ·have j:=zAa (zEl h0 h3 (by rw[ha,hb];rfl));clear h0;simp only[aI];go_enter func126,ntmps126;go_wp2_with (first | (go_at_call_of 145 (x1 #[.int .i64 a.kind,.int .i64 a.thread,.int .i64 a.block,.int .i64 a.var,.int .i64 a.value,.int .i64 a.order,.int .i64 a.scope,.int .i64 a.bars,.bool a.step,.int .u64 (a.Ef:Nat)]);refine (uW a _).mono ?_;rintro x X ⟨rfl,d⟩;rw[ha];have e:=zAa (U.out.below d);have f:=zAa (V.out.below d);have k:=zAa (HB.out.trans (d.mono (by simp;omega)));obtain⟨p,q,s,t,u,v,y,z,A,B,C,D⟩:=e.out.facts;obtain⟨E,F,G,H,I,J,K,L,M,N,O,S⟩:=f.out.facts) | (go_at_call_of 145 (x1 #[.int .i64 b.kind,.int .i64 b.thread,.int .i64 b.block,.int .i64 b.var,.int .i64 b.value,.int .i64 b.order,.int .i64 b.scope,.int .i64 b.bars,.bool b.step,.int .u64 (b.Ef:Nat)]);refine (uW b _).mono ?_;rintro x Z ⟨rfl,i⟩;rw[hb];have m:=zAa (e.out.below i);have n:=zAa (f.out.below i);have T:=zAa (k.out.trans (i.mono (by have:=k.out.size;omega)));obtain⟨p,q,s,t,u,v,y,z,A,B,C,D⟩:=m.out.facts;obtain⟨E,F,G,H,I,J,K,L,M,N,O,S⟩:=n.out.facts));go_ret;rw[j.out];exact⟨rfl,T.out⟩
 have j:=zAa (zGu h0 h3 (by rw[ha,hb];rfl));clear h0
 cases h4:(a.block==b.block)<;>cases h5:(a.scope==1)<;>cases h6:(b.scope==1)
 all_goals
  simp only[aI];go_enter func126,ntmps126;go_wp2_with (first | (go_at_call_of 145 (x1 #[.int .i64 a.kind,.int .i64 a.thread,.int .i64 a.block,.int .i64 a.var,.int .i64 a.value,.int .i64 a.order,.int .i64 a.scope,.int .i64 a.bars,.bool a.step,.int .u64 (a.Ef:Nat)]);refine (uW a _).mono ?_;rintro x X ⟨rfl,d⟩;rw[ha];have e:=zAa (U.out.below d);have f:=zAa (V.out.below d);have k:=zAa (HB.out.trans (d.mono (by simp;omega)));obtain⟨p,q,s,t,u,v,y,z,A,B,C,D⟩:=e.out.facts;obtain⟨E,F,G,H,I,J,K,L,M,N,O,S⟩:=f.out.facts) | (go_at_call_of 145 (x1 #[.int .i64 b.kind,.int .i64 b.thread,.int .i64 b.block,.int .i64 b.var,.int .i64 b.value,.int .i64 b.order,.int .i64 b.scope,.int .i64 b.bars,.bool b.step,.int .u64 (b.Ef:Nat)]);refine (uW b _).mono ?_;rintro x Z ⟨rfl,i⟩;rw[hb];have m:=zAa (e.out.below i);have n:=zAa (f.out.below i);have T:=zAa (k.out.trans (i.mono (by have:=k.out.size;omega)));obtain⟨p,q,s,t,u,v,y,z,A,B,C,D⟩:=m.out.facts;obtain⟨E,F,G,H,I,J,K,L,M,N,O,S⟩:=n.out.facts));go_ret;rw[j.out,h4,h5,h6];exact⟨rfl,T.out⟩
theorem zFG (e:Q.Ev) (w:World) :
  Calls prog 128 #[.agg (aI e)] w fun x w'=>x=.returned (.bool (e.kind==1&&P.rel e.order))/\Below w.heap.size w w':=by
 cases h0:(e.kind==1)
 all_goals
  simp only[aI];go_enter func128,ntmps128;go_wp2_with (first | (go_at_call 146;refine (zKX _ _).mono ?_;rintro x w' ⟨rfl,d⟩;have d:=d.symm;subst d));go_ret;exact⟨rfl,(xF _ _).alloc (xR _) _⟩
theorem zFH (e:Q.Ev) (w:World) :
  Calls prog 129 #[.agg (aI e)] w fun x w'=>x=.returned (.bool (e.kind==0&&acq e.order))/\Below w.heap.size w w':=by
 cases h0:(e.kind==0)
 all_goals
  simp only[aI];go_enter func129,ntmps129;go_wp2_with (first | (go_at_call 147;refine (zKW _ _).mono ?_;rintro x w' ⟨rfl,d⟩;have d:=d.symm;subst d));go_ret;exact⟨rfl,(xF _ _).alloc (xR _) _⟩
end Go.Proofs.YtonodfjdiepglaaGreatDoor
