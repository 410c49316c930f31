import Derived.Deep.RegionLaw
import Derived.Deep.RegionWith
import Derived.BigQuiet
import Derived.Deep.QuietTactic
import Derived.Deep.OwnRows
import Derived.Lib.ItoaNum
import Derived.Deep.AppendLies
import Derived.Test.YtkmebkbpfmoeaaaGreatH01
set_option linter.unusedVariables false
set_option linter.unusedSimpArgs false
set_option maxHeartbeats 12800000
namespace Go.Proofs.YtkmebkbpfmoeaaaGreat
open Go Go.RowKit
set_option maxRecDepth 100000
theorem Tryz.infoSet:(Tryz.prog.info? 127).map (fun i=>(i.zero,i.size,i.bytes))=some (some (.int .u64 0),1,8):=by kernel_rfl
theorem zGQ (n:Nat) (h:n<64):IntKind.u64.wrap ((2:Int) ^ n)=((2 ^ n:Nat):Int):=by
 have h1:(2:Nat) ^ n<2 ^ 64:=Nat.pow_lt_pow_right (by omega) h
 have h2:((2:Int) ^ n)=((2 ^ n:Nat):Int):=by push_cast;rfl
 rw[h2]
 have h3:(2:Nat) ^ n≤18446744073709551615:=Nat.le_of_lt_succ h1
 exact IntWalk.u64_in _ ⟨Int.natCast_nonneg _,Int.ofNat_le.2 h3⟩
theorem zDV (i:Int) (w:World) :
  Calls Tryz.prog 107 #[.int .i64 i] w fun e w'=>e=.returned (.int .u64 (Q.one i:Nat))∧w'=w:=by
 by_cases h0:i<0
 ·have HE:Hid (Q.one i=0):=by unfold Hid Q.one;rw[if_pos (Or.inl h0)]
  go_enter Tryz.func107,Tryz.ntmps107
  go_wp2
  go_ret
  rw[HE.out];exact⟨rfl,rfl⟩
 by_cases h1:64≤i
 ·have HE:Hid (Q.one i=0):=by unfold Hid Q.one;rw[if_pos (Or.inr h1)]
  go_enter Tryz.func107,Tryz.ntmps107
  go_wp2
  go_ret
  rw[HE.out];exact⟨rfl,rfl⟩
 ·have HE:Hid (IntKind.u64.wrap ((2:Int) ^ i.toNat)=(Q.one i:Nat)):=by unfold Hid Q.one;rw[if_neg (by omega)];exact zGQ _ (by omega)
  go_enter Tryz.func107,Tryz.ntmps107
  go_wp2
  go_ret
  exact⟨by first | (rw[← HE.out];rfl) | (simp;exact HE.out),rfl⟩
theorem zFq (s:Nat) (i:Int) (w:World) (hs:s<Q.M64) :
  Calls Tryz.prog 108 #[.int .u64 (s:Nat),.int .i64 i] w fun e w'=>e=.returned (.bool (Q.hasS s i))∧w'=w:=by
 have h1:=bits_and_u64_nat s (Q.one i) hs (Q.zKw i)
 have HE:Hid (Q.hasS s i=((s &&& Q.one i) != 0)):=rfl
 generalize (s &&& Q.one i)=x at *
 have hx2:Hid ((x != 0)=((x:Int) != 0)):=by unfold Hid;cases x<;>rfl
 cases hx:((x:Int) != 0)
 all_goals
  go_enter Tryz.func108,Tryz.ntmps108
  go_wp2_with (first | (go_at_call 107;refine (zDV _ _).mono ?_;rintro e w' ⟨rfl,rfl⟩))
  go_ret
  refine⟨?_,rfl⟩
  rw[HE.out,hx2.out,hx]
  first | rfl | simp
theorem zGl (s:Nat) (i:Int) (w:World) (hs:s<Q.M64) :
  Calls Tryz.prog 122 #[.int .u64 (s:Nat),.int .i64 i] w fun e w'=>e=.returned (.int .u64 (Q.moved s i:Nat))∧w'=w:=by
 by_cases h0:i<0
 ·have HE:Hid (Q.moved s i=0):=by unfold Hid Q.moved;rw[if_pos (Or.inl h0)]
  go_enter Tryz.func122,Tryz.ntmps122
  go_wp2
  go_ret
  rw[HE.out];exact⟨rfl,rfl⟩
 by_cases h1:64≤i
 ·have HE:Hid (Q.moved s i=0):=by unfold Hid Q.moved;rw[if_pos (Or.inr h1)]
  go_enter Tryz.func122,Tryz.ntmps122
  go_wp2
  go_ret
  rw[HE.out];exact⟨rfl,rfl⟩
 ·have HE:Hid (IntKind.u64.wrap ((s:Int)*(2:Int) ^ i.toNat)=(Q.moved s i:Nat)):=by
   unfold Hid Q.moved;rw[if_neg (by omega),IntKind.wrap_u64,Int.natCast_emod,Int.natCast_mul,Int.natCast_pow]
   rfl
  go_enter Tryz.func122,Tryz.ntmps122
  go_wp2
  go_ret
  exact⟨by first | (rw[← HE.out];rfl) | (simp;exact HE.out),rfl⟩
def zEg (l:List Nat):Array Value:=(l.map fun x=>Value.int .u64 (x:Nat)).toArray
theorem zEh (l:List Nat) (i:Nat) (h:i<l.length):(zEg l)[i]?=some (.int .u64 (l[i]:Nat)):=by simp[zEg,h]
theorem zGm (l:List Nat) (i x:Nat):(zEg l).setIfInBounds i (.int .u64 (x:Nat))=zEg (l.set i x):=by
 simp[zEg,List.map_set]
def zAo (w:World) (g:Nat) (l:List Nat):Prop:=w.heap[g]?=some (.cells (zEg l) 127 (0,0))
theorem zAo.lt {w:World} {g:Nat} {l:List Nat} (h:zAo w g l):g<w.heap.size:=(Array.getElem?_eq_some_iff.1 h).1
theorem zAo.of_block {w w':World} {g:Nat} {l:List Nat} (h:zAo w g l) (e:w'.heap[g]?=w.heap[g]?):zAo w' g l:=by unfold zAo at *;rw[e];exact h
theorem zAo.below {w w':World} {g:Nat} {l:List Nat} (h:zAo w g l) (hb:Below w.heap.size w w'):zAo w' g l:=h.of_block (hb.block g h.lt)
theorem zAo.alloc {w:World} {g:Nat} {l:List Nat} (h:zAo w g l) (o:Obj):zAo (w.alloc o) g l:=h.of_block (Below.heap_alloc _ _ _ h.lt)
theorem zAo.drew {w:World} {g:Nat} {l:List Nat} (h:zAo w g l):zAo w.drew g l:=h
theorem zAo.cell {w:World} {g:Nat} {l:List Nat} (h:zAo w g l) (i:Nat) (hi:i<l.length):w.cell? ⟨g,i,none⟩=some (.int .u64 (l[i]:Nat)):=by
 unfold zAo at h;simp only[World.cell?,h];exact zEh l i hi
theorem zAo.cellOf {w:World} {g:Nat} {l:List Nat} (h:zAo w g l) (i:Nat) (hi:i<l.length):w.cell? ⟨g,i,none⟩=some (.int .u64 (Q.ofR l (i:Int):Nat)):=by
 rw[Q.ofR_get l i hi];exact h.cell i hi
theorem zAo.free {w:World} {g:Nat} {l:List Nat} (h:zAo w g l) (i:Nat):w.frozen? ⟨g,i,none⟩=false:=by
 unfold zAo at h;simp[World.frozen?,h]
theorem zAo.set {w:World} {g:Nat} {l:List Nat} (h:zAo w g l) (i x:Nat):zAo (w.setCell ⟨g,i,none⟩ (.int .u64 (x:Nat))) g (l.set i x):=by
 unfold zAo at *;rw[zAf h,zGm]
theorem zCW (g n:Nat) (l:List Nat) (a:Int) (w:World) (h:zAo w g l) (hn:n=l.length) (hl:n≤64) :
  Calls Tryz.prog 78 #[.agg #[.slice (some ⟨g,0,none⟩) n n],.int .i64 a] w fun e w'=>e=.returned (.int .u64 (Q.ofR l a:Nat))∧Below w.heap.size w w':=by
 have hglt:=h.lt
 by_cases h0:a<0
 ·have HE:Hid (Q.ofR l a=0):=Q.zKx l a (Or.inl h0)
  clear h
  go_enter Tryz.func78,Tryz.ntmps78
  go_wp2
  go_ret
  rw[HE.out];exact⟨rfl,(Below.refl _ _).alloc (Nat.le_refl _) _⟩
 have hd0:decide (a<0)=false:=by simpa using h0
 by_cases h1:(n:Int)≤a
 ·have HE:Hid (Q.ofR l a=0):=Q.zKx l a (Or.inr (by omega))
  clear h
  go_enter Tryz.func78,Tryz.ntmps78
  go_wp2
  go_ret
  rw[HE.out];exact⟨rfl,(Below.refl _ _).alloc (Nat.le_refl _) _⟩
 ·obtain⟨i,rfl⟩:=Int.eq_ofNat_of_zero_le (by omega:0≤a)
  have hi:i<l.length:=by omega
  have c:=h.cellOf i hi
  have hin:(i:Int)<(n:Int):=by omega
  clear h hn
  generalize Q.ofR l (i:Int)=x at *
  go_enter Tryz.func78,Tryz.ntmps78
  go_wp2
  go_ret
  exact⟨rfl,(Below.refl _ _).alloc (Nat.le_refl _) _⟩
theorem zBF (g n:Nat) (l:List Nat) (a b:Int) (w:World) (h:zAo w g l) (hn:n=l.length) (hf:Q.Fits l) :
  Calls Tryz.prog 75 #[.agg #[.slice (some ⟨g,0,none⟩) n n],.int .i64 a,.int .i64 b] w fun e w'=>e=.returned (.bool (Q.hasR l a b))∧Below w.heap.size w w':=by
 have hlen:=hf.len
 have HF:=zAa hf
 have HA:=zAa (h.alloc (.cells #[.slice (some ⟨g,0,none⟩) n n] 64))
 have HN:=zAa hn
 have hglt:=h.lt
 clear hf h hn
 go_enter Tryz.func75,Tryz.ntmps75
 go_wp2_with (first
  | (go_at_call 78;refine (zCW g n l a _ HA.out HN.out (by have:=HN.out;omega)).mono ?_;rintro e w1 ⟨rfl,hb⟩)
  | (go_at_call 108;refine (zFq _ _ _ (Q.zIW HF.out a)).mono ?_;rintro e w' ⟨rfl,rfl⟩))
 go_ret
 exact⟨rfl,((Below.refl _ _).alloc (Nat.le_refl _) _).trans (hb.mono (by simp))⟩
end Go.Proofs.YtkmebkbpfmoeaaaGreat
namespace Go.Proofs.YtkmebkbpfmoeaaaGreat
namespace P
structure Thr where
 block:Int
 line:Int
 stmts:List Stm
structure Rd where
 threads:List Thr
 line:Int
 count:Int
 ifs:Int
 opn:List Int
 most:Int
def Rd.zero:Rd:=⟨[],0,0,0,[],8⟩
def putLast:List Thr→Stm→List Thr
 | [],_=>[]
 | [t],s=>[{ t with stmts:=t.stmts++[s] }]
 | t::u::r,s=>t::putLast (u::r) s
theorem zJu (ts:List Thr) (t:Thr) (s:Stm):putLast (ts++[t]) s=ts++[{ t with stmts:=t.stmts++[s] }]:=by
 induction ts with
 | nil=>rfl
 | cons a r ih=>cases r with
  | nil=>rfl
  | cons b q=>simpa [putLast] using ih
theorem putLast_length (ts:List Thr) (s:Stm):(putLast ts s).length=ts.length:=by
 match ts with
 | []=>rfl
 | [_]=>rfl
 | t::u::r=>simpa [putLast] using putLast_length (u::r) s
def put (r:Rd) (s:Stm):Rd:={ r with threads:=putLast r.threads s }
def ends (r:Rd) (s:Stm):Rd × Bool :=
 match r.opn.getLast? with
 | none=>(r,false)
 | some l=>(put { r with opn:=r.opn.dropLast } { s with label:=l },true)
def branch (r:Rd) (s:Stm):Rd × Bool :=
 if 2≤r.opn.length then (r,false) else (put { r with ifs:=r.ifs+1,opn:=r.opn++[r.ifs+1] } { s with label:=r.ifs+1 },true)
def zIX (r:Rd) (ws:List (List UInt8)):Rd × Bool :=
 if 4≤r.threads.length∨0<r.opn.length then (r,false)
 else match ws with
  | [_,[c]]=>if (digit c 2).2 then ({ r with threads:=r.threads++[⟨(digit c 2).1,r.line,[]⟩],count:=0 },true) else (r,false)
  | _=>(r,false)
def takes (r:Rd) (ws:List (List UInt8)):Rd × Bool :=
 if ws.head?==some [116,104,114,101,97,100] then zIX r ws
 else if r.threads.isEmpty then (r,false)
 else
  let st:={ (zIu ws).1 with line:=r.line }
  if (zIu ws).2 then
   if st.kind==11 then ends r st
   else if 8≤r.count then (r,false)
   else if st.kind==10 then
    if 2≤r.opn.length then ({ r with count:=r.count+1 },false) else branch { r with count:=r.count+1 } st
   else (put { r with count:=r.count+1 } st,true)
  else (r,false)
def beginD (r:Rd) (b l:Int):Rd × Bool :=
 if 4≤r.threads.length∨0<r.opn.length then (r,false) else ({ r with threads:=r.threads++[⟨b,l,[]⟩],count:=0 },true)
def putD (r:Rd) (st:Stm):Rd × Bool :=
 if r.threads.isEmpty then (r,false)
 else if st.kind==11 then ends r st
 else if r.most≤r.count then (r,false)
 else if st.kind==10 then
  if 2≤r.opn.length then ({ r with count:=r.count+1 },false) else branch { r with count:=r.count+1 } st
 else (put { r with count:=r.count+1 } st,true)
theorem begins_D (r:Rd) (a:List UInt8) (c:UInt8):zIX r [a,[c]]=if (digit c 2).2 then beginD r (digit c 2).1 r.line else (r,false):=by
 unfold zIX beginD
 by_cases h:4≤r.threads.length∨0<r.opn.length
 ·simp only[if_pos h];split<;>rfl
 ·simp only[if_neg h]
theorem takes_D (r:Rd) (c:List UInt8) (rs:List (List UInt8)) (h:(c==[116,104,114,101,97,100])=false) (hm:r.most=8) :
  takes r (c::rs)=if (zIu (c::rs)).2 then putD r { (zIu (c::rs)).1 with line:=r.line } else (r,false):=by
 have h':((c::rs).head?==some [116,104,114,101,97,100])=false:=by simpa using h
 unfold takes putD
 rw[h',hm]
 simp only[Bool.false_eq_true,if_false]
 cases ht:r.threads.isEmpty
 ·simp only[Bool.false_eq_true,if_false]
 ·simp
theorem ends_keep (r:Rd) (s:Stm):(ends r s).1.line=r.line∧(ends r s).1.most=r.most:=by
 unfold ends;split<;>exact⟨rfl,rfl⟩
theorem branch_keep (r:Rd) (s:Stm):(branch r s).1.line=r.line∧(branch r s).1.most=r.most:=by
 unfold branch;split<;>exact⟨rfl,rfl⟩
theorem putD_keep (r:Rd) (s:Stm):(putD r s).1.line=r.line∧(putD r s).1.most=r.most:=by
 unfold putD
 split
 ·exact⟨rfl,rfl⟩
 split
 ·exact ends_keep r s
 split
 ·exact⟨rfl,rfl⟩
 split
 ·split
  ·exact⟨rfl,rfl⟩
  ·exact branch_keep _ s
 ·exact⟨rfl,rfl⟩
theorem begins_keep (r:Rd) (ws:List (List UInt8)):(zIX r ws).1.line=r.line∧(zIX r ws).1.most=r.most:=by
 unfold zIX
 split
 ·exact⟨rfl,rfl⟩
 split
 ·split<;>exact⟨rfl,rfl⟩
 ·exact⟨rfl,rfl⟩
theorem zJR (r:Rd) (ws:List (List UInt8)) (hm:r.most=8):(takes r ws).1.line=r.line∧(takes r ws).1.most=8:=by
 cases ws with
 | nil =>
  unfold takes
  simp only[List.head?_nil]
  have:((none:Option (List UInt8))==some [116,104,114,101,97,100])=false:=rfl
  rw[this]
  simp only[Bool.false_eq_true,if_false]
  have hs:(zIu []).2=false:=by rfl
  rw[hs]
  simp only[Bool.false_eq_true,if_false]
  split<;>exact⟨rfl,hm⟩
 | cons c rs =>
  cases h:(c==[116,104,114,101,97,100])
  ·rw[takes_D r c rs h hm]
   split
   ·have:=putD_keep r { (zIu (c::rs)).1 with line:=r.line }
    exact⟨this.1,this.2.trans hm⟩
   ·exact⟨rfl,hm⟩
  ·have h':((c::rs).head?==some [116,104,114,101,97,100])=true:=by simpa using h
   unfold takes
   rw[h',if_pos rfl]
   have:=begins_keep r (c::rs)
   exact⟨this.1,this.2.trans hm⟩
end P
namespace P
def zIr (c:UInt8):List UInt8→List (List UInt8)
 | []=>[[]]
 | x::r=>if x=c then []::zIr c r else match zIr c r with
  | h::t=>(x::h)::t
  | []=>[[x]]
theorem zJs (c:UInt8) (l:List UInt8):zIr c l≠[]:=by
 cases l with
 | nil=>simp[zIr]
 | cons x r =>
  unfold zIr
  split
  ·simp
  ·split<;>simp
theorem splitAt_cons_eq (c:UInt8) (r:List UInt8):zIr c (c::r)=[]::zIr c r:=by simp[zIr]
theorem splitAt_cons_ne (c x:UInt8) (r:List UInt8) (h:x≠c) (a:List UInt8) (b:List (List UInt8)) (e:zIr c r=a::b):zIr c (x::r)=(x::a)::b:=by simp[zIr,h,e]
theorem zJv (c x:UInt8) (l:List UInt8):∀ (a:List (List UInt8)) (b:List UInt8),zIr c l=a++[b]→zIr c (l++[x])=if x=c then a++[b,[]] else a++[b++[x]]:=by
 induction l with
 | nil =>
  intro a b h
  simp[zIr] at h
  have:a=[]∧b=[]:=by
   cases a with
   | nil=>simpa using h
   | cons p q=>simp at h
  obtain⟨rfl,rfl⟩:=this
  by_cases hx:x=c<;>simp[zIr,hx]
 | cons y r ih =>
  intro a b h
  by_cases hy:y=c
  ·subst hy
   rw[splitAt_cons_eq] at h
   cases a with
   | nil =>
    simp at h
    exact absurd h.2 (zJs _ _)
   | cons p q =>
    simp at h
    obtain⟨rfl,h⟩:=h
    have:=ih q b h
    rw[List.cons_append,splitAt_cons_eq,this]
    split<;>simp
  ·cases hs:zIr c r with
   | nil=>exact absurd hs (zJs _ _)
   | cons p q =>
    rw[splitAt_cons_ne c y r hy p q hs] at h
    rw[List.cons_append]
    cases a with
    | nil =>
     simp at h
     obtain⟨rfl,rfl⟩:=h
     have:=ih [] p (by simpa using hs)
     by_cases hx:x=c
     ·rw[if_pos hx] at this ⊢
      rw[splitAt_cons_ne c y _ hy p [[]] (by simpa using this)];simp
     ·rw[if_neg hx] at this ⊢
      rw[splitAt_cons_ne c y _ hy (p++[x]) [] (by simpa using this)];simp
    | cons p' q' =>
     simp at h
     obtain⟨rfl,rfl⟩:=h
     have:=ih (p::q') b (by simpa using hs)
     by_cases hx:x=c
     ·rw[if_pos hx] at this ⊢
      rw[splitAt_cons_ne c y _ hy p (q'++[b,[]]) (by simpa using this)];simp
     ·rw[if_neg hx] at this ⊢
      rw[splitAt_cons_ne c y _ hy p (q'++[b++[x]]) (by simpa using this)];simp
end P
namespace P
def zJZ (r:Rd):List (List UInt8)→Rd × Bool
 | []=>(r,true)
 | x::xs =>
  if (takes { r with line:=r.line+1 } (zIr 32 x)).2 then zJZ (takes { r with line:=r.line+1 } (zIr 32 x)).1 xs
  else ((takes { r with line:=r.line+1 } (zIr 32 x)).1,false)
theorem zJm (xs:List (List UInt8)):∀ (r r':Rd) (x:List UInt8),zJZ r xs=(r',true)→zJZ r (xs++[x])=takes { r' with line:=r'.line+1 } (zIr 32 x):=by
 induction xs with
 | nil =>
  intro r r' x h
  simp[zJZ] at h
  subst h
  simp only[List.nil_append,zJZ]
  cases ht:(takes { r with line:=r.line+1 } (zIr 32 x)).2
  ·simp[← ht]
  ·simp[← ht]
 | cons y ys ih =>
  intro r r' x h
  simp only[zJZ] at h
  simp only[List.cons_append,zJZ]
  cases ht:(takes { r with line:=r.line+1 } (zIr 32 y)).2
  ·simp[ht] at h
  ·simp only[ht,if_true] at h ⊢
   exact ih _ _ _ h
theorem runLines_more (xs:List (List UInt8)):∀ (r:Rd) (ys:List (List UInt8)),(zJZ r xs).2=false→zJZ r (xs++ys)=zJZ r xs:=by
 induction xs with
 | nil=>intro r ys h;simp[zJZ] at h
 | cons y zs ih =>
  intro r ys h
  simp only[List.cons_append,zJZ] at h ⊢
  cases ht:(takes { r with line:=r.line+1 } (zIr 32 y)).2
  ·simp
  ·simp only[ht,if_true] at h ⊢
   exact ih _ _ h
def lines (l:List UInt8):List Thr × Int :=
 let q:=zJZ Rd.zero (zIr 10 l).dropLast
 if q.2 then
  if (zIr 10 l).getLast?≠some []∨q.1.opn≠[]∨q.1.threads=[] then ([],q.1.line+1) else (q.1.threads,0)
 else ([],q.1.line)
theorem zJn {α:Type} (l:List α) (k:Nat) (h:k<l.length):l.drop k=l[k]::l.drop (k+1):=(List.drop_eq_getElem_cons h)
theorem zIO (c:UInt8) (l:List UInt8):(zIr c l).length≤l.length+1:=by
 induction l with
 | nil=>simp[zIr]
 | cons x r ih =>
  unfold zIr
  split
  ·simp;omega
  ·split
   ·rename_i h t e;rw[e] at ih;simp at ih ⊢;omega
   ·simp
structure Good (k:Nat) (r:Rd):Prop where
 few:r.threads.length≤4
 stm:∀ t∈r.threads,t.stmts.length≤k
 opn:r.opn.length≤2
 ifs0:0≤r.ifs
 ifs1:r.ifs≤k
 cnt:0≤r.count
 lin0:0≤r.line
 lin1:r.line≤k
theorem good_zero:Good 0 Rd.zero:=⟨by simp[Rd.zero],by simp[Rd.zero],by simp[Rd.zero],by simp[Rd.zero],by simp[Rd.zero],by simp[Rd.zero],by simp[Rd.zero],by simp[Rd.zero]⟩
theorem putLast_mem (ts:List Thr) (s:Stm) (k:Nat) (h:∀ t∈ts,t.stmts.length≤k):∀ t∈putLast ts s,t.stmts.length≤k+1:=by
 match ts,h with
 | [],h=>intro t ht;simp[putLast] at ht
 | [a],h =>
  intro t ht
  simp[putLast] at ht
  subst ht
  have:=h a (by simp)
  simp;omega
 | a::b::r,h =>
  intro t ht
  simp only[putLast,List.mem_cons] at ht
  rcases ht with rfl | ht
  ·have:=h t (by simp);omega
  ·exact putLast_mem (b::r) s k (fun t ht=>h t (by simp at ht ⊢;right;exact ht)) t ht
theorem good_takes {k:Nat} {r:Rd} (ws:List (List UInt8)) (h:Good k r) (hl:r.line+1≤k+1):Good (k+1) (takes { r with line:=r.line+1 } ws).1:=by
 have h0:Good (k+1) { r with line:=r.line+1 }:=⟨h.few,fun t ht=>by have:=h.stm t ht;omega,h.opn,h.ifs0,by have:=h.ifs1;simp;omega,h.cnt,by have:=h.lin0;simp;omega,by simpa using hl⟩
 have hp:∀ (o:List Int) (i c:Int) (s:Stm),o.length≤2→0≤i→i≤k+1→0≤c→Good (k+1) (put { r with line:=r.line+1,opn:=o,ifs:=i,count:=c } s):=fun o i c s h1 h2 h3 h4 =>
  ⟨by simp only[put,putLast_length];exact h.few,putLast_mem _ _ _ h.stm,h1,h2,by simpa [put] using h3,h4,h0.lin0,h0.lin1⟩
 unfold takes
 split
 ·unfold zIX
  by_cases hf':4≤r.threads.length∨0<r.opn.length
  ·rw[if_pos (by exact hf')];exact h0
  ·rw[if_neg (by exact hf')]
   split
   ·split
    ·
     refine⟨by simp;omega,?_,h0.opn,h0.ifs0,h0.ifs1,by simp,h0.lin0,h0.lin1⟩
     intro t ht
     simp at ht
     rcases ht with ht | rfl
     ·exact h0.stm t ht
     ·simp
    ·exact h0
   ·exact h0
 ·split
  ·exact h0
  ·simp only[]
   split
   ·split
    ·unfold ends
     split
     ·exact h0
     ·rename_i l hl
      refine hp _ r.ifs r.count _ ?_ h.ifs0 (by have:=h.ifs1;omega) h.cnt
      have:=h.opn
      simp;omega
    ·split
     ·exact h0
     ·split
      ·split
       ·exact⟨h0.few,h0.stm,h0.opn,h0.ifs0,h0.ifs1,by have:=h.cnt;simp;omega,h0.lin0,h0.lin1⟩
       ·rename_i ho
        unfold branch
        rw[if_neg ho]
        refine hp _ _ _ _ ?_ (by have:=h.ifs0;simp;omega) (by have:=h.ifs1;simp;omega) (by have:=h.cnt;simp;omega)
        simp at ho ⊢;omega
      ·exact hp r.opn r.ifs _ _ h.opn h.ifs0 (by have:=h.ifs1;omega) (by have:=h.cnt;omega)
   ·exact h0
end P
namespace P
open Go
def dec (n:Int):List UInt8:=Lib.decDigits n.toNat
def regT (n:Int):List UInt8:=[37,114]++dec n
def varT (v:Int):List UInt8:=if v==0 then [120] else if v==1 then [121] else [122]
def opdT (o:Opd):List UInt8:=if o.reg then regT o.n else dec o.n
def ordT (o:Int):List UInt8 :=
 if o==1 then [114,101,108,97,120,101,100] else if o==2 then [97,99,113,117,105,114,101] else if o==3 then [114,101,108,101,97,115,101]
 else if o==4 then [97,99,113,95,114,101,108] else [115,99]
def sufT (st:Stm):List UInt8 :=
 if st.order==0 then [46,119,101,97,107] else [46]++ordT st.order++(if st.scope==0 then [46,99,116,97] else [46,103,112,117])
def celT (v:Int):List UInt8:=[91]++varT v++[93]
def labT (n:Int):List UInt8:=[76]++dec n
def instr (st:Stm):List UInt8 :=
 if st.kind==0 then [108,100]++sufT st++[32]++regT st.dest++[44,32]++celT st.var
 else if st.kind==1 then [115,116]++sufT st++[32]++celT st.var++[44,32]++opdT st.a
 else if st.kind==2 then [97,116,111,109,46,97,100,100]++sufT st++[32]++regT st.dest++[44,32]++celT st.var++[44,32]++opdT st.a
 else if st.kind==3 then [97,116,111,109,46,101,120,99,104]++sufT st++[32]++regT st.dest++[44,32]++celT st.var++[44,32]++opdT st.a
 else if st.kind==4 then [102,101,110,99,101]++sufT st
 else if st.kind==5 then [98,97,114,46,115,121,110,99]
 else if st.kind==6 then [109,111,118,32]++regT st.dest++[44,32]++opdT st.a
 else if st.kind==7 then [97,100,100,32]++regT st.dest++[44,32]++opdT st.a++[44,32]++opdT st.b
 else if st.kind==8 then [115,117,98,32]++regT st.dest++[44,32]++opdT st.a++[44,32]++opdT st.b
 else if st.kind==9 then [115,101,116,101,113,32]++regT st.dest++[44,32]++opdT st.a++[44,32]++opdT st.b
 else if st.kind==11 then labT st.label++[58]
 else [98,122,32]++opdT st.a++[44,32]++labT st.label
def writeS:List Stm→List UInt8
 | []=>[]
 | s::r=>instr s++[10]++writeS r
def writeT (t:Thr):List UInt8:=[46,116,104,114,101,97,100,32]++dec t.block++[10]++writeS t.stmts
def write:List Thr→List UInt8
 | []=>[]
 | t::r=>writeT t++write r
structure Small (st:Stm):Prop where
 d0:0≤st.dest
 d1:st.dest<100
 a0:0≤st.a.n
 a1:st.a.n<100
 b0:0≤st.b.n
 b1:st.b.n<100
 l0:0≤st.label
 l1:st.label<100
end P
namespace P
def isAcc (k:Int):Bool:=k==0||k==1||k==2||k==3
end P
end Go.Proofs.YtkmebkbpfmoeaaaGreat
namespace Go.Proofs.YtkmebkbpfmoeaaaGreat
open Go Go.RowKit
set_option maxRecDepth 100000
namespace Q
structure Ev where
 kind:Int
 thread:Int
 block:Int
 var:Int
 value:Int
 order:Int
 scope:Int
 bars:Int
 step:Bool
 hangs:Nat
def Ev.zero:Ev:=⟨0,0,0,0,0,0,0,0,false,0⟩
def zIY (e:Ev):Bool:=e.kind==0||e.kind==1
def isSC (e:Ev):Bool:=e.kind==2&&e.order==5
def zIo (i:Int) (a:Ev) (k:Int) (b:Ev):Bool:=if a.thread == -1 then b.thread != -1 else a.thread==b.thread&&decide (i<k)
def isOrdE (e:Ev):Bool:=e.order != 0&&e.kind != 3&&e.kind != 4
def strong (a b:Ev):Bool :=
 if a.thread == -1||b.thread == -1 then false else if a.thread==b.thread then true else if !isOrdE a||!isOrdE b then false else a.block==b.block||(a.scope==1&&b.scope==1)
def zIA (a b:Ev):Bool:=a.kind==3&&b.kind==4&&a.block==b.block&&a.bars==b.bars
end Q
def zAb (e:Q.Ev):Array Value:=#[.int .i64 e.kind,.int .i64 e.thread,.int .i64 e.block,.int .i64 e.var,.int .i64 e.value,.int .i64 e.order,.int .i64 e.scope,.int .i64 e.bars,.bool e.step,.int .u64 (e.hangs:Nat)]
theorem zCI (e:Q.Ev) (w:World) :
  Calls Tryz.prog 111 #[.agg (zAb e)] w fun x w'=>x=.returned (.bool (Q.zIY e))∧Below w.heap.size w w':=by
 cases h0:(e.kind==0)
 ·cases h1:(e.kind==1)
  all_goals
   have HE:Hid (Q.zIY e=(e.kind==1)):=by unfold Hid Q.zIY;rw[h0];rfl
   simp only[zAb]
   go_enter Tryz.func111,Tryz.ntmps111
   go_wp2
   go_ret
   rw[HE.out,h1];exact⟨rfl,(Below.refl _ _).alloc (Nat.le_refl _) _⟩
 ·have HE:Hid (Q.zIY e=true):=by unfold Hid Q.zIY;rw[h0];rfl
  simp only[zAb]
  go_enter Tryz.func111,Tryz.ntmps111
  go_wp2
  go_ret
  rw[HE.out];exact⟨rfl,(Below.refl _ _).alloc (Nat.le_refl _) _⟩
theorem zFr (e:Q.Ev) (w:World) :
  Calls Tryz.prog 125 #[.agg (zAb e)] w fun x w'=>x=.returned (.bool (Q.isSC e))∧Below w.heap.size w w':=by
 cases h0:(e.kind==2)
 ·have HE:Hid (Q.isSC e=false):=by unfold Hid Q.isSC;rw[h0];rfl
  simp only[zAb]
  go_enter Tryz.func125,Tryz.ntmps125
  go_wp2
  go_ret
  rw[HE.out];exact⟨rfl,(Below.refl _ _).alloc (Nat.le_refl _) _⟩
 ·cases h1:(e.order==5)
  all_goals
   have HE:Hid (Q.isSC e=(e.order==5)):=by unfold Hid Q.isSC;rw[h0];rfl
   simp only[zAb]
   go_enter Tryz.func125,Tryz.ntmps125
   go_wp2
   go_ret
   rw[HE.out,h1];exact⟨rfl,(Below.refl _ _).alloc (Nat.le_refl _) _⟩
theorem zEL (i k:Int) (a b:Q.Ev) (w:World) :
  Calls Tryz.prog 123 #[.int .i64 i,.agg (zAb a),.int .i64 k,.agg (zAb b)] w fun x w'=>x=.returned (.bool (Q.zIo i a k b))∧Below w.heap.size w w':=by
 have HB:Hid (∀ o p,Below w.heap.size w ((w.alloc o).alloc p)):=fun o p=>((Below.refl _ _).alloc (Nat.le_refl _) _).alloc (by simp) _
 cases h0:(a.thread == -1)
 ·cases h1:(a.thread==b.thread)
  ·have HE:Hid (Q.zIo i a k b=false):=by unfold Hid Q.zIo;rw[h0,h1];rfl
   simp only[zAb]
   go_enter Tryz.func123,Tryz.ntmps123
   go_wp2
   go_ret
   rw[HE.out];exact⟨rfl,HB.out _ _⟩
  ·by_cases h2:i<k
   ·have HE:Hid (Q.zIo i a k b=true):=by unfold Hid Q.zIo;rw[h0,h1,decide_eq_true h2];rfl
    simp only[zAb]
    go_enter Tryz.func123,Tryz.ntmps123
    go_wp2
    go_ret
    rw[HE.out];exact⟨rfl,HB.out _ _⟩
   ·have HE:Hid (Q.zIo i a k b=false):=by unfold Hid Q.zIo;rw[h0,h1,decide_eq_false h2];rfl
    have hd:decide (i<k)=false:=decide_eq_false h2
    simp only[zAb]
    go_enter Tryz.func123,Tryz.ntmps123
    go_wp2
    go_ret
    rw[HE.out];exact⟨rfl,HB.out _ _⟩
 ·cases h1:(b.thread != -1)
  all_goals
   have HE:Hid (Q.zIo i a k b=(b.thread != -1)):=by unfold Hid Q.zIo;rw[h0];rfl
   simp only[zAb]
   go_enter Tryz.func123,Tryz.ntmps123
   go_wp2
   go_ret
   rw[HE.out,h1];exact⟨rfl,HB.out _ _⟩
theorem zBV (e:Q.Ev) (w:World) :
  Calls Tryz.prog 143 #[.agg (zAb e)] w fun x w'=>x=.returned (.bool (Q.isOrdE e))∧Below w.heap.size w w':=by
 have HB:Hid (∀ o,Below w.heap.size w (w.alloc o)):=fun o=>(Below.refl _ _).alloc (Nat.le_refl _) _
 cases h0:(e.order != 0)<;>cases h1:(e.kind != 3)<;>cases h2:(e.kind != 4)
 all_goals
  have HE:Hid (Q.isOrdE e=((e.order != 0)&&(e.kind != 3)&&(e.kind != 4))):=rfl
  simp only[zAb]
  go_enter Tryz.func143,Tryz.ntmps143
  go_wp2
  go_ret
  rw[HE.out,h0,h1,h2];exact⟨rfl,HB.out _⟩
theorem zGn {a b:Q.Ev} (h:(a.thread == -1||b.thread == -1)=true):Q.strong a b=false:=by unfold Q.strong;rw[h];rfl
theorem zEM {a b:Q.Ev} (h:(a.thread == -1||b.thread == -1)=false) (h1:(a.thread==b.thread)=true):Q.strong a b=true:=by unfold Q.strong;rw[h,h1];rfl
theorem zDn {a b:Q.Ev} (h:(a.thread == -1||b.thread == -1)=false) (h1:(a.thread==b.thread)=false) (h2:(!Q.isOrdE a||!Q.isOrdE b)=true):Q.strong a b=false:=by unfold Q.strong;rw[h,h1,h2];rfl
theorem zEN {a b:Q.Ev} (h:(a.thread == -1||b.thread == -1)=false) (h1:(a.thread==b.thread)=false) (h2:(!Q.isOrdE a||!Q.isOrdE b)=false):Q.strong a b=(a.block==b.block||(a.scope==1&&b.scope==1)):=by unfold Q.strong;rw[h,h1,h2];rfl
theorem zFM (a b:Q.Ev) (w:World) :
  Calls Tryz.prog 126 #[.agg (zAb a),.agg (zAb b)] w fun x w'=>x=.returned (.bool (Q.zIA a b))∧Below w.heap.size w w':=by
 have HB:Hid (∀ o p,Below w.heap.size w ((w.alloc o).alloc p)):=fun o p=>((Below.refl _ _).alloc (Nat.le_refl _) _).alloc (by simp) _
 cases h0:(a.kind==3)<;>cases h1:(b.kind==4)<;>cases h2:(a.block==b.block)<;>cases h3:(a.bars==b.bars)
 all_goals
  have HE:Hid (Q.zIA a b=((a.kind==3)&&(b.kind==4)&&(a.block==b.block)&&(a.bars==b.bars))):=rfl
  simp only[zAb]
  go_enter Tryz.func126,Tryz.ntmps126
  go_wp2
  go_ret
  rw[HE.out,h0,h1,h2,h3];exact⟨rfl,HB.out _ _⟩
theorem zBz (s:ByteArray) (m k:Nat):(s.extract m k).toList=(s.toList.take k).drop m:=by
 rw[zAN,zAN,List.drop_take]
 simp
theorem zDo (s:ByteArray) (k:Nat) (h:k<s.size):s.toList.take (k+1)=s.toList.take k++[s[k]]:=by
 rw[zAN,List.take_succ_eq_append_getElem (by simpa using h)];rfl
theorem Tryz.infoStr:(Tryz.prog.info? 9).map (fun i=>(i.zero,i.size,i.bytes))=some (some (.string ByteArray.empty),1,16):=by kernel_rfl
theorem zDJ (c:UInt8) (s:ByteArray) (k m:Nat) (bs:List ByteArray) (hk:k<s.size) (h:P.zIr c (s.toList.take k)=bs.map ByteArray.toList++[(s.toList.take k).drop m]) (hc:s[k]=c) :
  P.zIr c (s.toList.take (k+1))=(bs++[s.extract m k]).map ByteArray.toList++[(s.toList.take (k+1)).drop (k+1)]:=by
 rw[zDo s k hk,P.zJv _ _ _ _ _ h,if_pos hc]
 simp[zBz]
 omega
theorem zDK (c:UInt8) (s:ByteArray) (k m:Nat) (bs:List ByteArray) (hk:k<s.size) (hm:m≤k) (h:P.zIr c (s.toList.take k)=bs.map ByteArray.toList++[(s.toList.take k).drop m]) (hc:¬ s[k]=c) :
  P.zIr c (s.toList.take (k+1))=bs.map ByteArray.toList++[(s.toList.take (k+1)).drop m]:=by
 rw[zDo s k hk,P.zJv _ _ _ _ _ h,if_neg hc]
 have:m≤(s.toList.take k).length:=by rw[List.length_take,zAB];omega
 rw[List.drop_append_of_le_length this]
theorem zHr (s:ByteArray) (c:UInt8) (k:Nat) (h:k<s.size):((s.extract k (k+1)).toList==(⟨#[c]⟩:ByteArray).toList)=decide (s[k]=c):=by
 have e:(s.extract k (k+1)).toList=[s[k]]:=by
  rw[zBz,zDo s k h,List.drop_append_of_le_length (by rw[List.length_take,zAB];omega),List.drop_of_length_le (by rw[List.length_take];omega)]
  rfl
 have e2:(⟨#[c]⟩:ByteArray).toList=[c]:=by rw[zAN]
 rw[e,e2]
 by_cases hc:s[k]=c<;>simp[hc]
theorem zEi (c:UInt8) (s:ByteArray) (w:World) (hs:s.size≤8192) :
  Calls Tryz.prog 38 #[.string s,.string ⟨#[c]⟩] w fun e w'=>∃ g cap,∃ ws:List ByteArray,e=.returned (.slice (some ⟨g,0,none⟩) ws.length cap)∧ws.map ByteArray.toList=P.zIr c s.toList ∧
   w'.ownsRow w.heap.size 9 1 (.slice (some ⟨g,0,none⟩) ws.length cap) ws.length (ws.map Value.string)∧Below w.heap.size w w':=by
 obtain⟨i0,hi,hz0,hz1,hz2⟩:=info_parts Tryz.infoStr
 have hone:(⟨#[c]⟩:ByteArray).size=1:=rfl
 generalize hbet:(⟨#[c]⟩:ByteArray)=bet at *
 go_enter Tryz.func38,Tryz.ntmps38
 go_wp2
 go_loopw [5,6,7] (fun v f i wr=>∃ k m:Nat,∃ bs:List ByteArray,k≤s.size∧m≤k∧i=.int .i64 k∧f=.int .i64 m∧bs.length≤k∧Hid (P.zIr c (s.toList.take k)=bs.map ByteArray.toList++[(s.toList.take k).drop m]) ∧
   wr.ownsRow w.heap.size 9 1 v bs.length (bs.map Value.string)∧Below w.heap.size w wr) (fun _ _ i _=>s.size-(intOf i).toNat)
 case atStart=>exact⟨0,0,[],Nat.zero_le _,Nat.le_refl _,rfl,rfl,Nat.le_refl _,by unfold Hid;simp[P.zIr],World.ownsRow_nil _ _ _ _,Below.refl _ _⟩
 case round =>
  obtain⟨k,m,bs,hk,hm,rfl,rfl,hbl,HS,hown,hbel⟩:=hrel
  have hmk:(m:Int)≤(k:Int):=by omega
  by_cases hlt:k<s.size
  ·have hlt':(k:Int)+1≤(s.size:Int):=by omega
   have hex:∀ wx,(Instr.slice 9 (.string s) (some (.int .i64 (k:Int))) (some (.int .i64 ((k:Int)+1))) none).run Tryz.prog wx=.ok (.string (s.extract k (k+1))) wx:=fun wx=>by
    rw[run_slice_string wx 9 s .i64 .i64 _ _ Tryz.underlying9 (by omega) (by omega) (by omega),show ((k:Int)).toNat=k by omega,show ((k:Int)+1).toNat=k+1 by omega]
   by_cases hc:s[k]=c
   ·have hq:((s.extract k (k+1)).toList==bet.toList)=true:=by rw[← hbet,zHr s c k hlt];simpa using hc
    have HC:=zAa hc
    clear hc
    go_wp2_with (first
     | (at_builtin;refine wpList_append_lies _ rfl (.tmp 38) (.tmp 43) 35 rfl w.heap.size 9 i0 (.string ByteArray.empty) 1 16 Tryz.underlying35 hi hz0 hz1 hz2 rfl (by decide) _ _ _ rfl (hown.alloc _) ⟨wr.heap.size,0,none⟩ 1 1 [.string (s.extract m k)] rfl rfl ?c1 ?c2 (by decide) ?c3 ?c4 ?c5 _ rfl ?_))
    case c1 =>
     intro j u hj
     match j,hj with
     | 0,hj=>simp at hj;subst hj;simp[Addr.add]
    case c2=>intro u hu;simp at hu;subst hu;rfl
    case c3=>unfold maxLen;omega
    case c4=>omega
    case c5=>have:=hbel.size;simp;omega
    intro g cap w1 hown' hgrow hat hglt
    have R:=zDJ c s k m bs hlt HS.out HC.out
    have HR:=zAa R
    have hb1:Below w.heap.size w w1:=(hbel.alloc hbel.size _).grown hgrow (by have:=hbel.size;simp;omega) (fun j hj=>(hown.lt j hj).1)
    clear R hown hgrow hat HS
    go_wp2
    go_roundw
    case rel=>exact⟨k+1,k+1,bs++[s.extract m k],by omega,Nat.le_refl _,by go_num,by go_num,by simp;omega,HR,by simpa using hown',hb1⟩
    case measure=>simp[intOf];omega
   ·have hq:((s.extract k (k+1)).toList==bet.toList)=false:=by rw[← hbet,zHr s c k hlt];simpa using hc
    have HR:=zAa (zDK c s k m bs hlt hm HS.out hc)
    clear HS hc
    go_wp2
    go_roundw
    case rel=>exact⟨k+1,m,bs,by omega,by omega,by go_num,rfl,by omega,HR,hown,hbel⟩
    case measure=>simp[intOf];omega
  ·have hlt':¬ ((k:Int)+1≤(s.size:Int)):=by omega
   have HS2:Hid ((bs++[s.extract m s.size]).map ByteArray.toList=P.zIr c s.toList):=by
    have hks:k=s.size:=by omega
    subst hks
    unfold Hid
    have:=HS.out
    rw[List.take_of_length_le (by rw[zAB];exact Nat.le_refl _)] at this
    rw[this];simp[zBz,List.take_of_length_le,zAB]
   clear HS
   go_wp2_with (first
     | (at_builtin;refine wpList_append_lies _ rfl (.tmp 49) (.tmp 53) 35 rfl w.heap.size 9 i0 (.string ByteArray.empty) 1 16 Tryz.underlying35 hi hz0 hz1 hz2 rfl (by decide) _ _ _ rfl (hown.alloc _) ⟨wr.heap.size,0,none⟩ 1 1 [.string (s.extract m s.size)] rfl rfl ?d1 ?d2 (by decide) ?d3 ?d4 ?d5 _ rfl ?_))
   case d2=>first | rfl | (intro u hu;simp at hu;subst hu;rfl)
   case d3=>unfold maxLen;omega
   case d4=>omega
   case d5=>have:=hbel.size;simp;omega
   intro g cap w1 hown' hgrow hat hglt
   have hb1:Below w.heap.size w w1:=(hbel.alloc hbel.size _).grown hgrow (by have:=hbel.size;simp;omega) (fun j hj=>(hown.lt j hj).1)
   clear hown hgrow hat
   go_wp2
   go_ret
   exact⟨g,cap,bs++[s.extract m s.size],by simp,HS2.out,by simpa using hown',hb1⟩
theorem zEj {w:World} {B g cap:Nat} {ws:List ByteArray} (h:w.ownsRow B 9 1 (.slice (some ⟨g,0,none⟩) ws.length cap) ws.length (ws.map Value.string)):zAt w g 0 ws∧ws.length≤cap∧g<w.heap.size:=by
 refine⟨fun i s hs=>?_,?_,(h.lt g rfl).2⟩
 ·have hi:=(List.getElem?_eq_some_iff.1 hs).1
  rw[Nat.zero_add,h.cellAt i (by omega)]
  simp[hs]
 ·rcases h.2 with ⟨h',_⟩ | ⟨g',cap',cur,h',hb,hg,hnc,_⟩
  ·simp at h'
  ·simp only[Value.slice.injEq] at h';omega
end Go.Proofs.YtkmebkbpfmoeaaaGreat
