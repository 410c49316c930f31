import Derived.Laws.Bits64b
import Derived.Deep.RegionLaw
import Derived.Deep.RegionWith
import Derived.BigQuiet
import Derived.Deep.QuietTactic
import Derived.Deep.OwnRows
import Derived.Lib.ItoaNum
import Derived.Test.YtgceflcbckjjiaaGreatDoorD02
set_option linter.unusedVariables false
set_option linter.unusedSimpArgs false
set_option maxHeartbeats 12800000
namespace Go.Proofs.YtgceflcbckjjiaaGreatDoor
namespace Q
def one (i:Int):Nat:=if i<0∨64≤i then 0 else 2 ^ i.toNat
def hasS (s:Nat) (i:Int):Bool:=(s &&& one i) != 0
def moved (s:Nat) (n:Int):Nat:=if n<0∨64≤n then 0 else s*2 ^ n.toNat % 18446744073709551616
def ofR (r:List Nat) (a:Int):Nat:=if a<0 then 0 else r.getD a.toNat 0
def hasR (r:List Nat) (a b:Int):Bool:=hasS (ofR r a) b
def newR (n:Nat):List Nat:=List.replicate n 0
def addR (r:List Nat) (a b:Int):List Nat:=if a<0∨(r.length:Int)≤a∨(r.length:Int)≤b then r else r.set a.toNat (ofR r a ||| one b)
def orR (r o:List Nat):List Nat:=(List.range r.length).map fun i:Nat=>ofR r (i:Int) ||| ofR o (i:Int)
def andR (r o:List Nat):List Nat:=(List.range r.length).map fun i:Nat=>ofR r (i:Int) &&& ofR o (i:Int)
def turnB (r:List Nat) (a:Nat) (t:List Nat) (b:Nat):List Nat:=if hasR r a b then addR t b a else t
def turnA (r:List Nat) (t:List Nat) (a:Nat):List Nat:=(List.range r.length).foldl (turnB r a) t
def zLF (r:List Nat):List Nat:=(List.range r.length).foldl (turnA r) (newR r.length)
def thenB (r next:List Nat) (a:Nat) (acc:Nat) (b:Nat):Nat:=if hasR r a b then acc ||| ofR next b else acc
def thenA (r next:List Nat) (a:Nat):Nat:=(List.range r.length).foldl (thenB r next a) 0
def thenR (r next:List Nat):List Nat:=(List.range r.length).map (thenA r next)
def zLG (b:Nat) (c:List Nat) (a:Nat):List Nat:=if hasR c a b then c.set a (ofR c a ||| ofR c b) else c
def zMy (n:Nat) (c:List Nat) (b:Nat):List Nat:=(List.range n).foldl (zLG b) c
def zLl (r:List Nat):List Nat:=(List.range r.length).foldl (zMy r.length) (orR r r)
def leadsR (r:List Nat):Bool:=r.any fun x=>x != 0
def zKG (r:List Nat):Bool:=(List.range r.length).any fun i:Nat=>hasR r (i:Int) (i:Int)
def zLX (r:List Nat):Bool:=zKG (zLl r)
abbrev M64:Nat:=18446744073709551616
structure Fits (r:List Nat):Prop where
 len:r.length≤64
 lt:∀ x∈r,x<M64
theorem zMz (i:Int):one i<M64:=by
 unfold one
 split
 ·decide
 ·have:i.toNat≤63:=by omega
  exact Nat.lt_of_le_of_lt (Nat.pow_le_pow_right (by omega) this) (by decide)
theorem or_lt {a b:Nat} (ha:a<M64) (hb:b<M64):a ||| b<M64:=Nat.or_lt_two_pow (n:=64) ha hb
theorem and_lt {a b:Nat} (hb:b<M64):a &&& b<M64:=Nat.and_lt_two_pow (n:=64) a hb
theorem getD_in (r:List Nat) (i:Nat) (h:i<r.length):r.getD i 0=r[i]:=by simp[List.getD,List.getElem?_eq_getElem h]
theorem getD_out (r:List Nat) (i:Nat) (h:r.length≤i):r.getD i 0=0:=by simp[List.getD,List.getElem?_eq_none h]
theorem zKW {r:List Nat} (h:Fits r) (a:Int):ofR r a<M64:=by
 unfold ofR
 split
 ·decide
 ·by_cases hl:a.toNat<r.length
  ·rw[getD_in _ _ hl];exact h.lt _ (List.getElem_mem hl)
  ·rw[getD_out _ _ (by omega)];decide
theorem ofR_nat (r:List Nat) (i:Nat):ofR r (i:Int)=r.getD i 0:=by
 unfold ofR;rw[if_neg (by omega)];rfl
theorem ofR_get (r:List Nat) (i:Nat) (h:i<r.length):ofR r (i:Int)=r[i]:=by
 rw[ofR_nat,getD_in _ _ h]
theorem zMA (r:List Nat) (a:Int) (h:a<0∨(r.length:Int)≤a):ofR r a=0:=by
 unfold ofR
 split
 ·rfl
 ·rw[getD_out _ _ (by omega)]
theorem fits_new (n:Nat) (h:n≤64):Fits (newR n):=⟨by simpa [newR] using h,fun x hx=>by rw[List.eq_of_mem_replicate hx];decide⟩
theorem fits_set {r:List Nat} (h:Fits r) (i x:Nat) (hx:x<M64):Fits (r.set i x) :=
 ⟨by simpa using h.len,fun y hy=>by rcases List.mem_or_eq_of_mem_set hy with hy | rfl;exact h.lt _ hy;exact hx⟩
theorem zKH (r:List Nat) (a b:Int):(addR r a b).length=r.length:=by unfold addR;split<;>simp
theorem zKz {r:List Nat} (h:Fits r) (a b:Int):Fits (addR r a b):=by
 unfold addR
 split
 ·exact h
 ·exact fits_set h _ _ (or_lt (zKW h _) (zMz _))
theorem or_len (r o:List Nat):(orR r o).length=r.length:=by simp[orR]
theorem and_len (r o:List Nat):(andR r o).length=r.length:=by simp[andR]
theorem then_len (r o:List Nat):(thenR r o).length=r.length:=by simp[thenR]
theorem fits_or {r o:List Nat} (h:Fits r) (k:Fits o):Fits (orR r o) :=
 ⟨by rw[or_len];exact h.len,fun x hx=>by simp only[orR,List.mem_map] at hx;obtain⟨i,_,rfl⟩:=hx;exact or_lt (zKW h _) (zKW k _)⟩
theorem fits_and {r o:List Nat} (h:Fits r) (k:Fits o):Fits (andR r o) :=
 ⟨by rw[and_len];exact h.len,fun x hx=>by simp only[andR,List.mem_map] at hx;obtain⟨i,_,rfl⟩:=hx;exact and_lt (zKW k _)⟩
theorem thenB_lt {r o:List Nat} (k:Fits o) (a:Nat) (l:List Nat):∀ acc,acc<M64→l.foldl (thenB r o a) acc<M64:=by
 induction l with
 | nil=>intro acc h;exact h
 | cons b q ih =>
  intro acc h
  refine ih _ ?_
  unfold thenB;split
  ·exact or_lt h (zKW k _)
  ·exact h
theorem fits_then {r o:List Nat} (h:Fits r) (k:Fits o):Fits (thenR r o) :=
 ⟨by rw[then_len];exact h.len,fun x hx=>by simp only[thenR,List.mem_map] at hx;obtain⟨i,_,rfl⟩:=hx;exact thenB_lt k _ _ _ (by decide)⟩
theorem zKb {α:Type} (f:α→Nat→α) (x:α) (n:Nat):(List.range (n+1)).foldl f x=f ((List.range n).foldl f x) n:=by
 rw[List.range_succ,List.foldl_append];rfl
theorem closeB_len (b:Nat) (c:List Nat) (a:Nat):(zLG b c a).length=c.length:=by unfold zLG;split<;>simp
theorem closeB_fits {c:List Nat} (h:Fits c) (b a:Nat):Fits (zLG b c a):=by
 unfold zLG;split
 ·exact fits_set h _ _ (or_lt (zKW h _) (zKW h _))
 ·exact h
theorem fold_keep {α:Type} (P:α→Prop) (f:α→Nat→α) (hf:∀ x i,P x→P (f x i)) (l:List Nat):∀ x,P x→P (l.foldl f x):=by
 induction l with
 | nil=>intro x h;exact h
 | cons i q ih=>intro x h;exact ih _ (hf _ _ h)
theorem closeA_ok (n m b:Nat) {c:List Nat} (h:Fits c∧c.length=m):Fits (zMy n c b)∧(zMy n c b).length=m :=
 fold_keep (fun c=>Fits c∧c.length=m) _ (fun x i hx=>⟨closeB_fits hx.1 _ _,by rw[closeB_len];exact hx.2⟩) _ _ h
theorem closed_ok {r:List Nat} (h:Fits r):Fits (zLl r)∧(zLl r).length=r.length :=
 fold_keep (fun c=>Fits c∧c.length=r.length) _ (fun x i hx=>closeA_ok _ _ _ hx) _ _ ⟨fits_or h h,or_len _ _⟩
theorem turnA_ok (r:List Nat) (a m:Nat) {t:List Nat} (h:Fits t∧t.length=m):Fits (turnA r t a)∧(turnA r t a).length=m :=
 fold_keep (fun c=>Fits c∧c.length=m) _ (fun x i hx=>by unfold turnB;split;exact⟨zKz hx.1 _ _,by rw[zKH];exact hx.2⟩;exact hx) _ _ h
theorem turned_ok {r:List Nat} (h:r.length≤64):Fits (zLF r)∧(zLF r).length=r.length :=
 fold_keep (fun c=>Fits c∧c.length=r.length) _ (fun x i hx=>turnA_ok _ _ _ hx) _ _ ⟨fits_new _ h,by simp[newR]⟩
end Q
end Go.Proofs.YtgceflcbckjjiaaGreatDoor
namespace Go.Proofs.YtgceflcbckjjiaaGreatDoor
open Go Go.RowKit
set_option maxRecDepth 100000
theorem Tryz.infoSet:(Tryz.prog.info? 156).map (fun i=>(i.zero,i.size,i.bytes))=some (some (.int .u64 0),1,8):=by kernel_rfl
theorem zHM (n:Nat) (h:n<64):IntKind.u64.wrap ((2:Int) ^ n)=((2 ^ n:Nat):Int):=by
 have h1:(2:Nat) ^ n<2 ^ 64:=Nat.pow_lt_pow_right (by omega) h
 have h2:((2:Int) ^ n)=((2 ^ n:Nat):Int):=by push_cast;rfl
 rw[h2]
 have h3:(2:Nat) ^ n≤18446744073709551615:=Nat.le_of_lt_succ h1
 exact IntWalk.u64_in _ ⟨Int.natCast_nonneg _,Int.ofNat_le.2 h3⟩
theorem zEv (i:Int) (w:World) :
  Calls Tryz.prog 159 #[.int .i64 i] w fun e w'=>e=.returned (.int .u64 (Q.one i:Nat))∧w'=w:=by
 by_cases h0:i<0
 ·have HE:Hid (Q.one i=0):=by unfold Hid Q.one;rw[if_pos (Or.inl h0)]
  go_enter Tryz.func159,Tryz.ntmps159
  go_wp2
  go_ret
  rw[HE.out];exact⟨rfl,rfl⟩
 by_cases h1:64≤i
 ·have HE:Hid (Q.one i=0):=by unfold Hid Q.one;rw[if_pos (Or.inr h1)]
  go_enter Tryz.func159,Tryz.ntmps159
  go_wp2
  go_ret
  rw[HE.out];exact⟨rfl,rfl⟩
 ·have HE:Hid (IntKind.u64.wrap ((2:Int) ^ i.toNat)=(Q.one i:Nat)):=by unfold Hid Q.one;rw[if_neg (by omega)];exact zHM _ (by omega)
  go_enter Tryz.func159,Tryz.ntmps159
  go_wp2
  go_ret
  exact⟨by first | (rw[← HE.out];rfl) | (simp;exact HE.out),rfl⟩
theorem zFZ (s:Nat) (i:Int) (w:World) (hs:s<Q.M64) :
  Calls Tryz.prog 160 #[.int .u64 (s:Nat),.int .i64 i] w fun e w'=>e=.returned (.bool (Q.hasS s i))∧w'=w:=by
 have h1:=bits_and_u64_nat s (Q.one i) hs (Q.zMz i)
 have HE:Hid (Q.hasS s i=((s &&& Q.one i) != 0)):=rfl
 generalize (s &&& Q.one i)=x at *
 have hx2:Hid ((x != 0)=((x:Int) != 0)):=by unfold Hid;cases x<;>rfl
 cases hx:((x:Int) != 0)
 all_goals
  go_enter Tryz.func160,Tryz.ntmps160
  go_wp2_with (first | (go_at_call 159;refine (zEv _ _).mono ?_;rintro e w' ⟨rfl,rfl⟩))
  go_ret
  refine⟨?_,rfl⟩
  rw[HE.out,hx2.out,hx]
  first | rfl | simp
theorem zGX (s:Nat) (i:Int) (w:World) (hs:s<Q.M64) :
  Calls Tryz.prog 178 #[.int .u64 (s:Nat),.int .i64 i] w fun e w'=>e=.returned (.int .u64 (Q.moved s i:Nat))∧w'=w:=by
 by_cases h0:i<0
 ·have HE:Hid (Q.moved s i=0):=by unfold Hid Q.moved;rw[if_pos (Or.inl h0)]
  go_enter Tryz.func178,Tryz.ntmps178
  go_wp2
  go_ret
  rw[HE.out];exact⟨rfl,rfl⟩
 by_cases h1:64≤i
 ·have HE:Hid (Q.moved s i=0):=by unfold Hid Q.moved;rw[if_pos (Or.inr h1)]
  go_enter Tryz.func178,Tryz.ntmps178
  go_wp2
  go_ret
  rw[HE.out];exact⟨rfl,rfl⟩
 ·have HE:Hid (IntKind.u64.wrap ((s:Int)*(2:Int) ^ i.toNat)=(Q.moved s i:Nat)):=by
   unfold Hid Q.moved;rw[if_neg (by omega),IntKind.wrap_u64,Int.natCast_emod,Int.natCast_mul,Int.natCast_pow]
   rfl
  go_enter Tryz.func178,Tryz.ntmps178
  go_wp2
  go_ret
  exact⟨by first | (rw[← HE.out];rfl) | (simp;exact HE.out),rfl⟩
def zEK (l:List Nat):Array Value:=(l.map fun x=>Value.int .u64 (x:Nat)).toArray
theorem zEL (l:List Nat) (i:Nat) (h:i<l.length):(zEK l)[i]?=some (.int .u64 (l[i]:Nat)):=by simp[zEK,h]
theorem zGY (l:List Nat) (i x:Nat):(zEK l).setIfInBounds i (.int .u64 (x:Nat))=zEK (l.set i x):=by
 simp[zEK,List.map_set]
def zAs (w:World) (g:Nat) (l:List Nat):Prop:=w.heap[g]?=some (.cells (zEK l) 156 (0,0))
theorem zAs.lt {w:World} {g:Nat} {l:List Nat} (h:zAs w g l):g<w.heap.size:=(Array.getElem?_eq_some_iff.1 h).1
theorem zAs.of_block {w w':World} {g:Nat} {l:List Nat} (h:zAs w g l) (e:w'.heap[g]?=w.heap[g]?):zAs w' g l:=by unfold zAs at *;rw[e];exact h
theorem zAs.below {w w':World} {g:Nat} {l:List Nat} (h:zAs w g l) (hb:Below w.heap.size w w'):zAs w' g l:=h.of_block (hb.block g h.lt)
theorem zAs.alloc {w:World} {g:Nat} {l:List Nat} (h:zAs w g l) (o:Obj):zAs (w.alloc o) g l:=h.of_block (Below.heap_alloc _ _ _ h.lt)
theorem zAs.drew {w:World} {g:Nat} {l:List Nat} (h:zAs w g l):zAs w.drew g l:=h
theorem zAs.cell {w:World} {g:Nat} {l:List Nat} (h:zAs w g l) (i:Nat) (hi:i<l.length):w.cell? ⟨g,i,none⟩=some (.int .u64 (l[i]:Nat)):=by
 unfold zAs at h;simp only[World.cell?,h];exact zEL l i hi
theorem zAs.cellOf {w:World} {g:Nat} {l:List Nat} (h:zAs w g l) (i:Nat) (hi:i<l.length):w.cell? ⟨g,i,none⟩=some (.int .u64 (Q.ofR l (i:Int):Nat)):=by
 rw[Q.ofR_get l i hi];exact h.cell i hi
theorem zAs.free {w:World} {g:Nat} {l:List Nat} (h:zAs w g l) (i:Nat):w.frozen? ⟨g,i,none⟩=false:=by
 unfold zAs at h;simp[World.frozen?,h]
theorem zAs.set {w:World} {g:Nat} {l:List Nat} (h:zAs w g l) (i x:Nat):zAs (w.setCell ⟨g,i,none⟩ (.int .u64 (x:Nat))) g (l.set i x):=by
 unfold zAs at *;rw[zAf h,zGY]
theorem zDp (g n:Nat) (l:List Nat) (a:Int) (w:World) (h:zAs w g l) (hn:n=l.length) (hl:n≤64) :
  Calls Tryz.prog 115 #[.agg #[.slice (some ⟨g,0,none⟩) n n],.int .i64 a] w fun e w'=>e=.returned (.int .u64 (Q.ofR l a:Nat))∧Below w.heap.size w w':=by
 have hglt:=h.lt
 by_cases h0:a<0
 ·have HE:Hid (Q.ofR l a=0):=Q.zMA l a (Or.inl h0)
  clear h
  go_enter Tryz.func115,Tryz.ntmps115
  go_wp2
  go_ret
  rw[HE.out];exact⟨rfl,(Below.refl _ _).alloc (Nat.le_refl _) _⟩
 have hd0:decide (a<0)=false:=by simpa using h0
 by_cases h1:(n:Int)≤a
 ·have HE:Hid (Q.ofR l a=0):=Q.zMA l a (Or.inr (by omega))
  clear h
  go_enter Tryz.func115,Tryz.ntmps115
  go_wp2
  go_ret
  rw[HE.out];exact⟨rfl,(Below.refl _ _).alloc (Nat.le_refl _) _⟩
 ·obtain⟨i,rfl⟩:=Int.eq_ofNat_of_zero_le (by omega:0≤a)
  have hi:i<l.length:=by omega
  have c:=h.cellOf i hi
  have hin:(i:Int)<(n:Int):=by omega
  clear h hn
  generalize Q.ofR l (i:Int)=x at *
  go_enter Tryz.func115,Tryz.ntmps115
  go_wp2
  go_ret
  exact⟨rfl,(Below.refl _ _).alloc (Nat.le_refl _) _⟩
theorem zBT (g n:Nat) (l:List Nat) (a b:Int) (w:World) (h:zAs w g l) (hn:n=l.length) (hf:Q.Fits l) :
  Calls Tryz.prog 112 #[.agg #[.slice (some ⟨g,0,none⟩) n n],.int .i64 a,.int .i64 b] w fun e w'=>e=.returned (.bool (Q.hasR l a b))∧Below w.heap.size w w':=by
 have hlen:=hf.len
 have HF:=zAa hf
 have HA:=zAa (h.alloc (.cells #[.slice (some ⟨g,0,none⟩) n n] 68))
 have HN:=zAa hn
 have hglt:=h.lt
 clear hf h hn
 go_enter Tryz.func112,Tryz.ntmps112
 go_wp2_with (first
  | (go_at_call 115;refine (zDp g n l a _ HA.out HN.out (by have:=HN.out;omega)).mono ?_;rintro e w1 ⟨rfl,hb⟩)
  | (go_at_call 160;refine (zFZ _ _ _ (Q.zKW HF.out a)).mono ?_;rintro e w' ⟨rfl,rfl⟩))
 go_ret
 exact⟨rfl,((Below.refl _ _).alloc (Nat.le_refl _) _).trans (hb.mono (by simp))⟩
end Go.Proofs.YtgceflcbckjjiaaGreatDoor
namespace Go.Proofs.YtgceflcbckjjiaaGreatDoor
namespace P
structure Thr where
 block:Int
 line:Int
 stmts:List Stm
structure Rd where
 threads:List Thr
 line:Int
 count:Int
 ifs:Int
 opn:List Int
 most:Int
def Rd.zero:Rd:=⟨[],0,0,0,[],8⟩
def putLast:List Thr→Stm→List Thr
 | [],_=>[]
 | [t],s=>[{ t with stmts:=t.stmts++[s] }]
 | t::u::r,s=>t::putLast (u::r) s
theorem zLu (ts:List Thr) (t:Thr) (s:Stm):putLast (ts++[t]) s=ts++[{ t with stmts:=t.stmts++[s] }]:=by
 induction ts with
 | nil=>rfl
 | cons a r ih=>cases r with
  | nil=>rfl
  | cons b q=>simpa [putLast] using ih
theorem putLast_length (ts:List Thr) (s:Stm):(putLast ts s).length=ts.length:=by
 match ts with
 | []=>rfl
 | [_]=>rfl
 | t::u::r=>simpa [putLast] using putLast_length (u::r) s
def put (r:Rd) (s:Stm):Rd:={ r with threads:=putLast r.threads s }
def ends (r:Rd) (s:Stm):Rd × Bool :=
 match r.opn.getLast? with
 | none=>(r,false)
 | some l=>(put { r with opn:=r.opn.dropLast } { s with label:=l },true)
def zLQ (r:Rd) (s:Stm):Rd × Bool :=
 if 2≤r.opn.length then (r,false) else (put { r with ifs:=r.ifs+1,opn:=r.opn++[r.ifs+1] } { s with label:=r.ifs+1 },true)
def zKX (r:Rd) (ws:List (List UInt8)):Rd × Bool :=
 if 4≤r.threads.length∨0<r.opn.length then (r,false)
 else match ws with
  | [_,[c]]=>if (digit c 2).2 then ({ r with threads:=r.threads++[⟨(digit c 2).1,r.line,[]⟩],count:=0 },true) else (r,false)
  | _=>(r,false)
def takes (r:Rd) (ws:List (List UInt8)):Rd × Bool :=
 if ws.head?==some [116,104,114,101,97,100] then zKX r ws
 else if r.threads.isEmpty then (r,false)
 else
  let st:={ (zKm ws).1 with line:=r.line }
  if (zKm ws).2 then
   if st.kind==11 then ends r st
   else if 8≤r.count then (r,false)
   else if st.kind==10 then
    if 2≤r.opn.length then ({ r with count:=r.count+1 },false) else zLQ { r with count:=r.count+1 } st
   else (put { r with count:=r.count+1 } st,true)
  else (r,false)
def zLh (r:Rd) (b l:Int):Rd × Bool :=
 if 4≤r.threads.length∨0<r.opn.length then (r,false) else ({ r with threads:=r.threads++[⟨b,l,[]⟩],count:=0 },true)
def putD (r:Rd) (st:Stm):Rd × Bool :=
 if r.threads.isEmpty then (r,false)
 else if st.kind==11 then ends r st
 else if r.most≤r.count then (r,false)
 else if st.kind==10 then
  if 2≤r.opn.length then ({ r with count:=r.count+1 },false) else zLQ { r with count:=r.count+1 } st
 else (put { r with count:=r.count+1 } st,true)
theorem begins_D (r:Rd) (a:List UInt8) (c:UInt8):zKX r [a,[c]]=if (digit c 2).2 then zLh r (digit c 2).1 r.line else (r,false):=by
 unfold zKX zLh
 by_cases h:4≤r.threads.length∨0<r.opn.length
 ·simp only[if_pos h];split<;>rfl
 ·simp only[if_neg h]
theorem takes_D (r:Rd) (c:List UInt8) (rs:List (List UInt8)) (h:(c==[116,104,114,101,97,100])=false) (hm:r.most=8) :
  takes r (c::rs)=if (zKm (c::rs)).2 then putD r { (zKm (c::rs)).1 with line:=r.line } else (r,false):=by
 have h':((c::rs).head?==some [116,104,114,101,97,100])=false:=by simpa using h
 unfold takes putD
 rw[h',hm]
 simp only[Bool.false_eq_true,if_false]
 cases ht:r.threads.isEmpty
 ·simp only[Bool.false_eq_true,if_false]
 ·simp
theorem ends_keep (r:Rd) (s:Stm):(ends r s).1.line=r.line∧(ends r s).1.most=r.most:=by
 unfold ends;split<;>exact⟨rfl,rfl⟩
theorem branch_keep (r:Rd) (s:Stm):(zLQ r s).1.line=r.line∧(zLQ r s).1.most=r.most:=by
 unfold zLQ;split<;>exact⟨rfl,rfl⟩
theorem putD_keep (r:Rd) (s:Stm):(putD r s).1.line=r.line∧(putD r s).1.most=r.most:=by
 unfold putD
 split
 ·exact⟨rfl,rfl⟩
 split
 ·exact ends_keep r s
 split
 ·exact⟨rfl,rfl⟩
 split
 ·split
  ·exact⟨rfl,rfl⟩
  ·exact branch_keep _ s
 ·exact⟨rfl,rfl⟩
theorem begins_keep (r:Rd) (ws:List (List UInt8)):(zKX r ws).1.line=r.line∧(zKX r ws).1.most=r.most:=by
 unfold zKX
 split
 ·exact⟨rfl,rfl⟩
 split
 ·split<;>exact⟨rfl,rfl⟩
 ·exact⟨rfl,rfl⟩
theorem zLR (r:Rd) (ws:List (List UInt8)) (hm:r.most=8):(takes r ws).1.line=r.line∧(takes r ws).1.most=8:=by
 cases ws with
 | nil =>
  unfold takes
  simp only[List.head?_nil]
  have:((none:Option (List UInt8))==some [116,104,114,101,97,100])=false:=rfl
  rw[this]
  simp only[Bool.false_eq_true,if_false]
  have hs:(zKm []).2=false:=by rfl
  rw[hs]
  simp only[Bool.false_eq_true,if_false]
  split<;>exact⟨rfl,hm⟩
 | cons c rs =>
  cases h:(c==[116,104,114,101,97,100])
  ·rw[takes_D r c rs h hm]
   split
   ·have:=putD_keep r { (zKm (c::rs)).1 with line:=r.line }
    exact⟨this.1,this.2.trans hm⟩
   ·exact⟨rfl,hm⟩
  ·have h':((c::rs).head?==some [116,104,114,101,97,100])=true:=by simpa using h
   unfold takes
   rw[h',if_pos rfl]
   have:=begins_keep r (c::rs)
   exact⟨this.1,this.2.trans hm⟩
end P
namespace P
def zLY (r:Rd):List (List UInt8)→Rd × Bool
 | []=>(r,true)
 | x::xs =>
  if (takes { r with line:=r.line+1 } (zJZ 32 x)).2 then zLY (takes { r with line:=r.line+1 } (zJZ 32 x)).1 xs
  else ((takes { r with line:=r.line+1 } (zJZ 32 x)).1,false)
theorem zLo (xs:List (List UInt8)):∀ (r r':Rd) (x:List UInt8),zLY r xs=(r',true)→zLY r (xs++[x])=takes { r' with line:=r'.line+1 } (zJZ 32 x):=by
 induction xs with
 | nil =>
  intro r r' x h
  simp[zLY] at h
  subst h
  simp only[List.nil_append,zLY]
  cases ht:(takes { r with line:=r.line+1 } (zJZ 32 x)).2
  ·simp[← ht]
  ·simp[← ht]
 | cons y ys ih =>
  intro r r' x h
  simp only[zLY] at h
  simp only[List.cons_append,zLY]
  cases ht:(takes { r with line:=r.line+1 } (zJZ 32 y)).2
  ·simp[ht] at h
  ·simp only[ht,if_true] at h ⊢
   exact ih _ _ _ h
theorem runLines_more (xs:List (List UInt8)):∀ (r:Rd) (ys:List (List UInt8)),(zLY r xs).2=false→zLY r (xs++ys)=zLY r xs:=by
 induction xs with
 | nil=>intro r ys h;simp[zLY] at h
 | cons y zs ih =>
  intro r ys h
  simp only[List.cons_append,zLY] at h ⊢
  cases ht:(takes { r with line:=r.line+1 } (zJZ 32 y)).2
  ·simp
  ·simp only[ht,if_true] at h ⊢
   exact ih _ _ h
def lines (l:List UInt8):List Thr × Int :=
 let q:=zLY Rd.zero (zJZ 10 l).dropLast
 if q.2 then
  if (zJZ 10 l).getLast?≠some []∨q.1.opn≠[]∨q.1.threads=[] then ([],q.1.line+1) else (q.1.threads,0)
 else ([],q.1.line)
theorem zKr {α:Type} (l:List α) (k:Nat) (h:k<l.length):l.drop k=l[k]::l.drop (k+1):=(List.drop_eq_getElem_cons h)
theorem zKB (c:UInt8) (l:List UInt8):(zJZ c l).length≤l.length+1:=by
 induction l with
 | nil=>simp[zJZ]
 | cons x r ih =>
  unfold zJZ
  split
  ·simp;omega
  ·split
   ·rename_i h t e;rw[e] at ih;simp at ih ⊢;omega
   ·simp
structure Good (k:Nat) (r:Rd):Prop where
 few:r.threads.length≤4
 stm:∀ t∈r.threads,t.stmts.length≤k
 opn:r.opn.length≤2
 ifs0:0≤r.ifs
 ifs1:r.ifs≤k
 cnt:0≤r.count
 lin0:0≤r.line
 lin1:r.line≤k
theorem good_zero:Good 0 Rd.zero:=⟨by simp[Rd.zero],by simp[Rd.zero],by simp[Rd.zero],by simp[Rd.zero],by simp[Rd.zero],by simp[Rd.zero],by simp[Rd.zero],by simp[Rd.zero]⟩
theorem putLast_mem (ts:List Thr) (s:Stm) (k:Nat) (h:∀ t∈ts,t.stmts.length≤k):∀ t∈putLast ts s,t.stmts.length≤k+1:=by
 match ts,h with
 | [],h=>intro t ht;simp[putLast] at ht
 | [a],h =>
  intro t ht
  simp[putLast] at ht
  subst ht
  have:=h a (by simp)
  simp;omega
 | a::b::r,h =>
  intro t ht
  simp only[putLast,List.mem_cons] at ht
  rcases ht with rfl | ht
  ·have:=h t (by simp);omega
  ·exact putLast_mem (b::r) s k (fun t ht=>h t (by simp at ht ⊢;right;exact ht)) t ht
theorem good_takes {k:Nat} {r:Rd} (ws:List (List UInt8)) (h:Good k r) (hl:r.line+1≤k+1):Good (k+1) (takes { r with line:=r.line+1 } ws).1:=by
 have h0:Good (k+1) { r with line:=r.line+1 }:=⟨h.few,fun t ht=>by have:=h.stm t ht;omega,h.opn,h.ifs0,by have:=h.ifs1;simp;omega,h.cnt,by have:=h.lin0;simp;omega,by simpa using hl⟩
 have hp:∀ (o:List Int) (i c:Int) (s:Stm),o.length≤2→0≤i→i≤k+1→0≤c→Good (k+1) (put { r with line:=r.line+1,opn:=o,ifs:=i,count:=c } s):=fun o i c s h1 h2 h3 h4 =>
  ⟨by simp only[put,putLast_length];exact h.few,putLast_mem _ _ _ h.stm,h1,h2,by simpa [put] using h3,h4,h0.lin0,h0.lin1⟩
 unfold takes
 split
 ·unfold zKX
  by_cases hf':4≤r.threads.length∨0<r.opn.length
  ·rw[if_pos (by exact hf')];exact h0
  ·rw[if_neg (by exact hf')]
   split
   ·split
    ·
     refine⟨by simp;omega,?_,h0.opn,h0.ifs0,h0.ifs1,by simp,h0.lin0,h0.lin1⟩
     intro t ht
     simp at ht
     rcases ht with ht | rfl
     ·exact h0.stm t ht
     ·simp
    ·exact h0
   ·exact h0
 ·split
  ·exact h0
  ·simp only[]
   split
   ·split
    ·unfold ends
     split
     ·exact h0
     ·rename_i l hl
      refine hp _ r.ifs r.count _ ?_ h.ifs0 (by have:=h.ifs1;omega) h.cnt
      have:=h.opn
      simp;omega
    ·split
     ·exact h0
     ·split
      ·split
       ·exact⟨h0.few,h0.stm,h0.opn,h0.ifs0,h0.ifs1,by have:=h.cnt;simp;omega,h0.lin0,h0.lin1⟩
       ·rename_i ho
        unfold zLQ
        rw[if_neg ho]
        refine hp _ _ _ _ ?_ (by have:=h.ifs0;simp;omega) (by have:=h.ifs1;simp;omega) (by have:=h.cnt;simp;omega)
        simp at ho ⊢;omega
      ·exact hp r.opn r.ifs _ _ h.opn h.ifs0 (by have:=h.ifs1;omega) (by have:=h.cnt;omega)
   ·exact h0
end P
namespace P
open Go
def dec (n:Int):List UInt8:=Lib.decDigits n.toNat
def regT (n:Int):List UInt8:=[37,114]++dec n
def varT (v:Int):List UInt8:=if v==0 then [120] else if v==1 then [121] else [122]
def opdT (o:Opd):List UInt8:=if o.reg then regT o.n else dec o.n
def ordT (o:Int):List UInt8 :=
 if o==1 then [114,101,108,97,120,101,100] else if o==2 then [97,99,113,117,105,114,101] else if o==3 then [114,101,108,101,97,115,101]
 else if o==4 then [97,99,113,95,114,101,108] else [115,99]
def sufT (st:Stm):List UInt8 :=
 if st.order==0 then [46,119,101,97,107] else [46]++ordT st.order++(if st.scope==0 then [46,99,116,97] else [46,103,112,117])
def celT (v:Int):List UInt8:=[91]++varT v++[93]
def labT (n:Int):List UInt8:=[76]++dec n
def instr (st:Stm):List UInt8 :=
 if st.kind==0 then [108,100]++sufT st++[32]++regT st.dest++[44,32]++celT st.var
 else if st.kind==1 then [115,116]++sufT st++[32]++celT st.var++[44,32]++opdT st.a
 else if st.kind==2 then [97,116,111,109,46,97,100,100]++sufT st++[32]++regT st.dest++[44,32]++celT st.var++[44,32]++opdT st.a
 else if st.kind==3 then [97,116,111,109,46,101,120,99,104]++sufT st++[32]++regT st.dest++[44,32]++celT st.var++[44,32]++opdT st.a
 else if st.kind==4 then [102,101,110,99,101]++sufT st
 else if st.kind==5 then [98,97,114,46,115,121,110,99]
 else if st.kind==6 then [109,111,118,32]++regT st.dest++[44,32]++opdT st.a
 else if st.kind==7 then [97,100,100,32]++regT st.dest++[44,32]++opdT st.a++[44,32]++opdT st.b
 else if st.kind==8 then [115,117,98,32]++regT st.dest++[44,32]++opdT st.a++[44,32]++opdT st.b
 else if st.kind==9 then [115,101,116,101,113,32]++regT st.dest++[44,32]++opdT st.a++[44,32]++opdT st.b
 else if st.kind==11 then labT st.label++[58]
 else [98,122,32]++opdT st.a++[44,32]++labT st.label
def zMH:List Stm→List UInt8
 | []=>[]
 | s::r=>instr s++[10]++zMH r
def writeT (t:Thr):List UInt8:=[46,116,104,114,101,97,100,32]++dec t.block++[10]++zMH t.stmts
def write:List Thr→List UInt8
 | []=>[]
 | t::r=>writeT t++write r
structure Small (st:Stm):Prop where
 d0:0≤st.dest
 d1:st.dest<100
 a0:0≤st.a.n
 a1:st.a.n<100
 b0:0≤st.b.n
 b1:st.b.n<100
 l0:0≤st.label
 l1:st.label<100
theorem dec_len (n:Int) (h:n<100):(dec n).length≤2:=by
 have:∀ i:Fin 100,(Lib.decDigits i.1).length≤2:=by decide +kernel
 unfold dec
 by_cases h0:0≤n
 ·exact this ⟨n.toNat,by omega⟩
 ·rw[show n.toNat=0 by omega];exact this ⟨0,by omega⟩
end P
end Go.Proofs.YtgceflcbckjjiaaGreatDoor
