import Derived.WalkSpells
import Derived.Deep.MidRow
import Derived.Laws.Bits64b
import Derived.Deep.RegionLaw
import Derived.Deep.RegionWith
import Derived.BigQuiet
import Derived.Deep.QuietTactic
import Derived.Deep.OwnRows
import Derived.Test.YtgceflcbckjjiaaGreatDoorC01
set_option linter.unusedVariables false
set_option linter.unusedSimpArgs false
set_option maxHeartbeats 12800000
namespace Go.Proofs.YtgceflcbckjjiaaGreatDoor
open Go Go.RowKit
set_option maxRecDepth 100000
theorem zJO (x:ByteArray) (l:List UInt8) (h:x.data.toList=l):x=⟨l.toArray⟩:=by
 subst h
 cases x
 simp
theorem zAq (l:List UInt8):(⟨l.toArray⟩:ByteArray).toList=l:=by rw[zAQ]
theorem zAt (a b:ByteArray):(a++b).toList=a.toList++b.toList:=by
 rw[zAQ,zAQ,zAQ];simp
theorem zAf (l:Array UInt8):(⟨l⟩:ByteArray).toList=l.toList:=by rw[zAQ]
theorem zAR (l:Array UInt8):(⟨l⟩:ByteArray).size=l.size:=rfl
def Txt (k:Nat) (s:ByteArray) (l:List UInt8):Prop:=s.toList=l∧s.size≤k
theorem Txt.size {k:Nat} {s:ByteArray} {l:List UInt8} (h:Txt k s l):s.size≤k:=h.2
namespace P
end P
theorem zFY (c:Int) (w:World) (h0:-9223372036854775808≤c) (h1:c<9223372036854775808) :
  Calls Tryz.prog 9 #[.int .i64 c,.int .i64 4] w fun e w'=>∃ i:Nat,i<4∧e=.returned (.int .i64 (i:Int))∧w'=w:=by
 by_cases hc:c<0
 ·have hw1:IntKind.i64.wrap (c+1)=c+1:=by simp[IntKind.wrap,IntKind.signed,IntKind.bits];omega
  have hw2:IntKind.i64.wrap (-(c+1))=-(c+1):=by simp[IntKind.wrap,IntKind.signed,IntKind.bits];omega
  have hr:-((c+1).tmod 4)=(-(c+1)) % 4:=by rw[← Int.neg_tmod,Int.tmod_eq_emod_of_nonneg (by omega)]
  have HR:Hid (-((c+1).tmod 4)=(((-(c+1)) % 4).toNat:Int)):=by unfold Hid;rw[hr];omega
  clear hr
  go_enter Tryz.func9,Tryz.ntmps9
  go_wp2
  go_ret
  refine⟨((-(c+1)) % 4).toNat,by omega,?_,rfl⟩
  rw[← HR.out];rfl
 ·have HR:Hid (c % 4=((c % 4).toNat:Int)):=by unfold Hid;omega
  go_enter Tryz.func9,Tryz.ntmps9
  go_wp2
  go_ret
  refine⟨(c % 4).toNat,by omega,?_,rfl⟩
  rw[← HR.out];rfl
theorem zHS (c:Int) (w:World) (h0:-9223372036854775808≤c) (h1:c<9223372036854775808) :
  Calls Tryz.prog 9 #[.int .i64 c,.int .i64 29] w fun e w'=>∃ i:Nat,i<29∧e=.returned (.int .i64 (i:Int))∧w'=w:=by
 by_cases hc:c<0
 ·have hw1:IntKind.i64.wrap (c+1)=c+1:=by simp[IntKind.wrap,IntKind.signed,IntKind.bits];omega
  have hw2:IntKind.i64.wrap (-(c+1))=-(c+1):=by simp[IntKind.wrap,IntKind.signed,IntKind.bits];omega
  have hr:-((c+1).tmod 29)=(-(c+1)) % 29:=by rw[← Int.neg_tmod,Int.tmod_eq_emod_of_nonneg (by omega)]
  have HR:Hid (-((c+1).tmod 29)=(((-(c+1)) % 29).toNat:Int)):=by unfold Hid;rw[hr];omega
  clear hr
  go_enter Tryz.func9,Tryz.ntmps9
  go_wp2
  go_ret
  refine⟨((-(c+1)) % 29).toNat,by omega,?_,rfl⟩
  rw[← HR.out];rfl
 ·have HR:Hid (c % 29=((c % 29).toNat:Int)):=by unfold Hid;omega
  go_enter Tryz.func9,Tryz.ntmps9
  go_wp2
  go_ret
  refine⟨(c % 29).toNat,by omega,?_,rfl⟩
  rw[← HR.out];rfl
namespace P
def zQL (x one y two:List UInt8):List UInt8:=[116,104,114,101,97,100,32,48,10,115,116,111,114,101,32,120,32,49,32]++x++one++[115,116,111,114,101,32,121,32,49,32]++y++[116,104,114,101,97,100,32,49,10,114,48,32,61,32,108,111,97,100,32,121,32]++y++two++[114,49,32,61,32,108,111,97,100,32,120,32]++x
def zQG (b sc:List UInt8):List UInt8:=[116,104,114,101,97,100,32,48,10,115,116,111,114,101,32,120,32,49]++([32,114,101,108,97,120,101,100,32]++sc++[10])++b++[114,48,32,61,32,108,111,97,100,32,121]++([32,114,101,108,97,120,101,100,32]++sc++[10])++[116,104,114,101,97,100,32,49,10,115,116,111,114,101,32,121,32,49]++([32,114,101,108,97,120,101,100,32]++sc++[10])++b++[114,48,32,61,32,108,111,97,100,32,120]++([32,114,101,108,97,120,101,100,32]++sc++[10])
end P
theorem zGM (x one y two:ByteArray) (w:World) (h1:x.size≤1000) (h2:one.size≤1000) (h3:y.size≤1000) (h4:two.size≤1000) :
  Calls Tryz.prog 21 #[.string x,.string one,.string y,.string two] w fun e w'=>∃ t,e=.returned (.string t)∧t.toList=P.zQL x.toList one.toList y.toList two.toList∧w'=w:=by
 go_enter Tryz.func21,Tryz.ntmps21
 go_wp2
 go_ret
 refine⟨_,rfl,?_,rfl⟩
 simp only[P.zQL,zAt,zAf]
theorem zFZ (b sc:ByteArray) (w:World) (h1:b.size≤1000) (h2:sc.size≤1000) :
  Calls Tryz.prog 22 #[.string b,.string sc] w fun e w'=>∃ t,e=.returned (.string t)∧t.toList=P.zQG b.toList sc.toList∧w'=w:=by
 go_enter Tryz.func22,Tryz.ntmps22
 go_wp2
 go_ret
 refine⟨_,rfl,?_,rfl⟩
 simp only[P.zQG,zAt,zAf]
def zCl (cur:Array Value) (o:Nat):List Value→Array Value
 | []=>cur
 | v::r=>zCl (cur.setIfInBounds o v) (o+1) r
theorem zBD {g:Nat} {e:TypeId} {fr:Nat × Nat}:∀ (vs:List Value) (o:Nat) (w:World) (cur:Array Value),w.heap[g]?=some (.cells cur e fr)→(w.setCells g o vs).heap[g]?=some (.cells (zCl cur o vs) e fr)
 | [],_,_,_,h=>h
 | v::r,o,w,cur,h=>by
  rw[World.setCells]
  exact zBD r (o+1) _ _ (zAe h o v)
theorem zCr {g:Nat}:∀ (vs:List Value) (o:Nat) (w:World),w.grownBy (w.setCells g o vs) (some g)
 | [],_,w=>zAC w _
 | v::r,o,w=>by
  rw[World.setCells]
  exact zAW (zAl (zAC _ _) _ _) (zCr r (o+1) _)
theorem zFm (vs:List Value):∀ (o:Nat) (cur:Array Value),(zCl cur o vs).size=cur.size:=by
 induction vs with
 | nil=>intro o cur;rfl
 | cons v r ih=>intro o cur;rw[zCl,ih];simp
theorem zDL (vs:List Value):∀ (o:Nat) (cur:Array Value) (j:Nat),o+vs.length≤cur.size→(zCl cur o vs)[j]?=if o≤j∧j<o+vs.length then vs[j-o]? else cur[j]?:=by
 induction vs with
 | nil=>intro o cur j _;simp[zCl];omega
 | cons v r ih =>
  intro o cur j h
  simp at h
  rw[zCl,ih _ _ _ (by simp;omega)]
  by_cases h1:o=j
  ·subst h1
   rw[if_neg (by omega),if_pos (by simp)]
   simp[Array.getElem?_setIfInBounds];omega
  ·by_cases h2:o+1≤j∧j<o+1+r.length
   ·rw[if_pos h2,if_pos (by simp;omega)]
    rw[show j-o=(j-(o+1))+1 by omega];simp
   ·rw[if_neg h2,if_neg (by simp;omega)]
    simp[h1]
theorem zDM (cur new:Array Value) (h:cur.size=new.size):zCl cur 0 new.toList=new:=by
 apply Array.ext_getElem?
 intro j
 rw[zDL _ _ _ _ (by simp;omega)]
 by_cases h1:j<new.size
 ·rw[if_pos (by simp;omega)];simp
 ·rw[if_neg (by simp;omega),Array.getElem?_eq_none (by omega),Array.getElem?_eq_none (by omega)]
theorem zCs {w:World} {g:Nat} {cs:Array Value} {e:TypeId} (hg:w.heap[g]?=some (.cells cs e (0,0))):w.rangeAt g 0 cs.toList:=by
 intro j v hv
 simp[World.cell?,hg]
 simpa using hv
theorem zDe {w:World} {g:Nat} {cs:Array Value} {e:TypeId} (hg:w.heap[g]?=some (.cells cs e (0,0))) (n:Nat) (hn:n≤cs.size):w.there g 0 n:=by
 intro j hj
 simp[World.cell?,World.frozen?,hg]
 omega
variable {Pg:Program}
theorem zBc (w:World) (g:Nat) (ty:TypeId) (cs:Array Value) (e:TypeId) (hg:w.heap[g]?=some (.cells cs e (0,0))) (d:TypeDesc) (hu:Pg.underlying ty=some d) (hd:d.isRow=true) (hi:(Pg.info? ty).map (·.size)=some cs.size) :
  (loadVar ty ⟨g,0,none⟩).run Pg w=.ok (.agg cs) w:=by
 have:=run_loadVar_mid (P:=Pg) w g 0 ty cs.toList d (zCs hg) hu hd (by simpa using hi)
 simpa using this
theorem zBP {ops:Array Oper} {rest:List Oper} {op:Oper} {a:Act} {w:World} {Q:Exit→Act→World→Prop} (hgd:op.guard=none) (ty:TypeId) (x:Operand) (ho:op.op=.load ty x)
  (g:Nat) (hx:a.eval x=.pointer (some ⟨g,0,none⟩)) (cs:Array Value) (e:TypeId) (hg:w.heap[g]?=some (.cells cs e (0,0))) (d:TypeDesc)
  (hu:Pg.underlying ty=some d) (hd:d.isRow=true) (hi:(Pg.info? ty).map (·.size)=some cs.size)
  (h:wpList Pg ops Q rest (a.put op.dst (.agg cs)) w):wpList Pg ops Q (op::rest) a w :=
 wpList_load_mid hgd ty x ho g 0 hx cs.toList d (zCs hg) hu hd (by simpa using hi) (by simpa using h)
theorem zCR {ops:Array Oper} {rest:List Oper} {op:Oper} {a:Act} {w:World} {Q:Exit→Act→World→Prop} (hgd:op.guard=none) (ty:TypeId) (x y:Operand) (ho:op.op=.store ty x y)
  (g:Nat) (cells cs:Array Value) (e:TypeId) (hx:a.eval x=.pointer (some ⟨g,0,none⟩)) (hy:a.eval y=.agg cells) (hg:w.heap[g]?=some (.cells cs e (0,0))) (hsz:cs.size=cells.size)
  (hi:(Pg.info? ty).map (·.size)=some cells.size) (h1:cells.all (·.oneCell')=true)
  (h:∀ w',w'.heap[g]?=some (.cells cells e (0,0))→w.grownBy w' (some g)→wpList Pg ops Q rest (a.put op.dst undef) w'):wpList Pg ops Q (op::rest) a w:=by
 refine wpList_store_mid hgd ty x y ho g 0 cells hx hy (zDe hg _ (by omega)) hi h1 ?_
 have hb:=zBD cells.toList 0 w cs hg
 rw[zDM cs cells hsz] at hb
 exact h _ hb (zCr _ _ _)
theorem zAs {ops:Array Oper} {rest:List Oper} {op:Oper} {a:Act} {w:World} {Q:Exit→Act→World→Prop} (x:Operand) (hgd:op.guard=none) (ho:op.op=.load 96 x)
  (g:Nat) (st:P.Stm) (hx:a.eval x=.pointer (some ⟨g,0,none⟩)) (hg:zAv w g st)
  (h:wpList Tryz.prog ops Q rest (a.put op.dst (.agg (zAb st))) w):wpList Tryz.prog ops Q (op::rest) a w :=
 zBP hgd _ x ho g hx _ _ hg _ Tryz.underlying96 rfl (by kernel_rfl) h
theorem zAo {ops:Array Oper} {rest:List Oper} {op:Oper} {a:Act} {w:World} {Q:Exit→Act→World→Prop} (x y:Operand) (hgd:op.guard=none) (ho:op.op=.store 96 x y)
  (g:Nat) (st t:P.Stm) (hx:a.eval x=.pointer (some ⟨g,0,none⟩)) (hy:a.eval y=.agg (zAb t)) (hg:zAv w g st)
  (h:∀ w',zAv w' g t→w.grownBy w' (some g)→wpList Tryz.prog ops Q rest (a.put op.dst undef) w'):wpList Tryz.prog ops Q (op::rest) a w :=
 zCR hgd _ x y ho g (zAb t) (zAb st) _ hx hy hg rfl (by kernel_rfl) (by simp[zAb,Value.oneCell']) h
theorem zJP {w:World} {g:Nat} {st:P.Stm} (h:zAv w g st):(loadVar 96 ⟨g,0,none⟩).run Tryz.prog w=.ok (.agg (zAb st)) w :=
 zBc w g _ _ _ h _ Tryz.underlying96 rfl (by kernel_rfl)
def zBA (r:P.Stm × Bool):Value:=.tuple #[.agg (zAb r.1),.bool r.2]
theorem zAT {fn:Func} {R:Ending→World→Prop} {a:Act} {w:World} {p u:Tmp} (g:Nat) (st:P.Stm) (ok:Bool) (hres:fn.results=#[.cell p 96,.tmp u])
  (hp:a.tmps.getD p undef=.pointer (some ⟨g,0,none⟩)) (hu:a.tmps.getD u undef=.bool ok) (h:zAv w g st) (hd:a.defers=[]) (hR:R (.returned (zBA (st,ok))) w):bodyPost Tryz.prog fn R .ret a w:=by
 refine bodyPost_ret (v:=zBA (st,ok)) ?_ hd hR
 rw[results_cell_tmp hres,hp,hu]
 have:(asAddr (.pointer (some ⟨g,0,none⟩))).run Tryz.prog w=.ok ⟨g,0,none⟩ w:=rfl
 rw[this,Result.andThen_ok,zJP h,Result.andThen_ok]
 rfl
end Go.Proofs.YtgceflcbckjjiaaGreatDoor
namespace Go.Proofs.YtgceflcbckjjiaaGreatDoor
namespace Q
def one (i:Int):Nat:=if i<0∨64≤i then 0 else 2 ^ i.toNat
def hasS (s:Nat) (i:Int):Bool:=(s &&& one i) != 0
def moved (s:Nat) (n:Int):Nat:=if n<0∨64≤n then 0 else s*2 ^ n.toNat % 18446744073709551616
def ofR (r:List Nat) (a:Int):Nat:=if a<0 then 0 else r.getD a.toNat 0
def hasR (r:List Nat) (a b:Int):Bool:=hasS (ofR r a) b
def newR (n:Nat):List Nat:=List.replicate n 0
def addR (r:List Nat) (a b:Int):List Nat:=if a<0∨(r.length:Int)≤a∨(r.length:Int)≤b then r else r.set a.toNat (ofR r a ||| one b)
def orR (r o:List Nat):List Nat:=(List.range r.length).map fun i:Nat=>ofR r (i:Int) ||| ofR o (i:Int)
def andR (r o:List Nat):List Nat:=(List.range r.length).map fun i:Nat=>ofR r (i:Int) &&& ofR o (i:Int)
def turnB (r:List Nat) (a:Nat) (t:List Nat) (b:Nat):List Nat:=if hasR r a b then addR t b a else t
def turnA (r:List Nat) (t:List Nat) (a:Nat):List Nat:=(List.range r.length).foldl (turnB r a) t
def zPU (r:List Nat):List Nat:=(List.range r.length).foldl (turnA r) (newR r.length)
def thenB (r next:List Nat) (a:Nat) (acc:Nat) (b:Nat):Nat:=if hasR r a b then acc ||| ofR next b else acc
def thenA (r next:List Nat) (a:Nat):Nat:=(List.range r.length).foldl (thenB r next a) 0
def thenR (r next:List Nat):List Nat:=(List.range r.length).map (thenA r next)
def zPV (b:Nat) (c:List Nat) (a:Nat):List Nat:=if hasR c a b then c.set a (ofR c a ||| ofR c b) else c
def zQM (n:Nat) (c:List Nat) (b:Nat):List Nat:=(List.range n).foldl (zPV b) c
def zPu (r:List Nat):List Nat:=(List.range r.length).foldl (zQM r.length) (orR r r)
def leadsR (r:List Nat):Bool:=r.any fun x=>x != 0
def loopsR (r:List Nat):Bool:=(List.range r.length).any fun i:Nat=>hasR r (i:Int) (i:Int)
def circlesR (r:List Nat):Bool:=loopsR (zPu r)
abbrev M64:Nat:=18446744073709551616
structure Fits (r:List Nat):Prop where
 len:r.length≤64
 lt:∀ x∈r,x<M64
theorem zQN (i:Int):one i<M64:=by
 unfold one
 split
 ·decide
 ·have:i.toNat≤63:=by omega
  exact Nat.lt_of_le_of_lt (Nat.pow_le_pow_right (by omega) this) (by decide)
theorem or_lt {a b:Nat} (ha:a<M64) (hb:b<M64):a ||| b<M64:=Nat.or_lt_two_pow (n:=64) ha hb
theorem and_lt {a b:Nat} (hb:b<M64):a &&& b<M64:=Nat.and_lt_two_pow (n:=64) a hb
theorem getD_in (r:List Nat) (i:Nat) (h:i<r.length):r.getD i 0=r[i]:=by simp[List.getD,List.getElem?_eq_getElem h]
theorem getD_out (r:List Nat) (i:Nat) (h:r.length≤i):r.getD i 0=0:=by simp[List.getD,List.getElem?_eq_none h]
theorem zPb {r:List Nat} (h:Fits r) (a:Int):ofR r a<M64:=by
 unfold ofR
 split
 ·decide
 ·by_cases hl:a.toNat<r.length
  ·rw[getD_in _ _ hl];exact h.lt _ (List.getElem_mem hl)
  ·rw[getD_out _ _ (by omega)];decide
theorem ofR_nat (r:List Nat) (i:Nat):ofR r (i:Int)=r.getD i 0:=by
 unfold ofR;rw[if_neg (by omega)];rfl
theorem ofR_get (r:List Nat) (i:Nat) (h:i<r.length):ofR r (i:Int)=r[i]:=by
 rw[ofR_nat,getD_in _ _ h]
theorem zQO (r:List Nat) (a:Int) (h:a<0∨(r.length:Int)≤a):ofR r a=0:=by
 unfold ofR
 split
 ·rfl
 ·rw[getD_out _ _ (by omega)]
theorem fits_new (n:Nat) (h:n≤64):Fits (newR n):=⟨by simpa [newR] using h,fun x hx=>by rw[List.eq_of_mem_replicate hx];decide⟩
theorem fits_set {r:List Nat} (h:Fits r) (i x:Nat) (hx:x<M64):Fits (r.set i x) :=
 ⟨by simpa using h.len,fun y hy=>by rcases List.mem_or_eq_of_mem_set hy with hy | rfl;exact h.lt _ hy;exact hx⟩
theorem zOJ (r:List Nat) (a b:Int):(addR r a b).length=r.length:=by unfold addR;split<;>simp
theorem zOB {r:List Nat} (h:Fits r) (a b:Int):Fits (addR r a b):=by
 unfold addR
 split
 ·exact h
 ·exact fits_set h _ _ (or_lt (zPb h _) (zQN _))
theorem or_len (r o:List Nat):(orR r o).length=r.length:=by simp[orR]
theorem and_len (r o:List Nat):(andR r o).length=r.length:=by simp[andR]
theorem then_len (r o:List Nat):(thenR r o).length=r.length:=by simp[thenR]
theorem fits_or {r o:List Nat} (h:Fits r) (k:Fits o):Fits (orR r o) :=
 ⟨by rw[or_len];exact h.len,fun x hx=>by simp only[orR,List.mem_map] at hx;obtain⟨i,_,rfl⟩:=hx;exact or_lt (zPb h _) (zPb k _)⟩
theorem fits_and {r o:List Nat} (h:Fits r) (k:Fits o):Fits (andR r o) :=
 ⟨by rw[and_len];exact h.len,fun x hx=>by simp only[andR,List.mem_map] at hx;obtain⟨i,_,rfl⟩:=hx;exact and_lt (zPb k _)⟩
theorem thenB_lt {r o:List Nat} (k:Fits o) (a:Nat) (l:List Nat):∀ acc,acc<M64→l.foldl (thenB r o a) acc<M64:=by
 induction l with
 | nil=>intro acc h;exact h
 | cons b q ih =>
  intro acc h
  refine ih _ ?_
  unfold thenB;split
  ·exact or_lt h (zPb k _)
  ·exact h
theorem fits_then {r o:List Nat} (h:Fits r) (k:Fits o):Fits (thenR r o) :=
 ⟨by rw[then_len];exact h.len,fun x hx=>by simp only[thenR,List.mem_map] at hx;obtain⟨i,_,rfl⟩:=hx;exact thenB_lt k _ _ _ (by decide)⟩
theorem zNY {α:Type} (f:α→Nat→α) (x:α) (n:Nat):(List.range (n+1)).foldl f x=f ((List.range n).foldl f x) n:=by
 rw[List.range_succ,List.foldl_append];rfl
theorem closeB_len (b:Nat) (c:List Nat) (a:Nat):(zPV b c a).length=c.length:=by unfold zPV;split<;>simp
theorem closeB_fits {c:List Nat} (h:Fits c) (b a:Nat):Fits (zPV b c a):=by
 unfold zPV;split
 ·exact fits_set h _ _ (or_lt (zPb h _) (zPb h _))
 ·exact h
theorem fold_keep {α:Type} (P:α→Prop) (f:α→Nat→α) (hf:∀ x i,P x→P (f x i)) (l:List Nat):∀ x,P x→P (l.foldl f x):=by
 induction l with
 | nil=>intro x h;exact h
 | cons i q ih=>intro x h;exact ih _ (hf _ _ h)
theorem closeA_ok (n m b:Nat) {c:List Nat} (h:Fits c∧c.length=m):Fits (zQM n c b)∧(zQM n c b).length=m :=
 fold_keep (fun c=>Fits c∧c.length=m) _ (fun x i hx=>⟨closeB_fits hx.1 _ _,by rw[closeB_len];exact hx.2⟩) _ _ h
theorem closed_ok {r:List Nat} (h:Fits r):Fits (zPu r)∧(zPu r).length=r.length :=
 fold_keep (fun c=>Fits c∧c.length=r.length) _ (fun x i hx=>closeA_ok _ _ _ hx) _ _ ⟨fits_or h h,or_len _ _⟩
theorem turnA_ok (r:List Nat) (a m:Nat) {t:List Nat} (h:Fits t∧t.length=m):Fits (turnA r t a)∧(turnA r t a).length=m :=
 fold_keep (fun c=>Fits c∧c.length=m) _ (fun x i hx=>by unfold turnB;split;exact⟨zOB hx.1 _ _,by rw[zOJ];exact hx.2⟩;exact hx) _ _ h
theorem turned_ok {r:List Nat} (h:r.length≤64):Fits (zPU r)∧(zPU r).length=r.length :=
 fold_keep (fun c=>Fits c∧c.length=r.length) _ (fun x i hx=>turnA_ok _ _ _ hx) _ _ ⟨fits_new _ h,by simp[newR]⟩
end Q
end Go.Proofs.YtgceflcbckjjiaaGreatDoor
namespace Go.Proofs.YtgceflcbckjjiaaGreatDoor
open Go Go.RowKit
set_option maxRecDepth 100000
theorem Tryz.infoSet:(Tryz.prog.info? 156).map (fun i=>(i.zero,i.size,i.bytes))=some (some (.int .u64 0),1,8):=by kernel_rfl
theorem zJQ (n:Nat) (h:n<64):IntKind.u64.wrap ((2:Int) ^ n)=((2 ^ n:Nat):Int):=by
 have h1:(2:Nat) ^ n<2 ^ 64:=Nat.pow_lt_pow_right (by omega) h
 have h2:((2:Int) ^ n)=((2 ^ n:Nat):Int):=by push_cast;rfl
 rw[h2]
 have h3:(2:Nat) ^ n≤18446744073709551615:=Nat.le_of_lt_succ h1
 exact IntWalk.u64_in _ ⟨Int.natCast_nonneg _,Int.ofNat_le.2 h3⟩
theorem zFn (i:Int) (w:World) :
  Calls Tryz.prog 159 #[.int .i64 i] w fun e w'=>e=.returned (.int .u64 (Q.one i:Nat))∧w'=w:=by
 by_cases h0:i<0
 ·have HE:Hid (Q.one i=0):=by unfold Hid Q.one;rw[if_pos (Or.inl h0)]
  go_enter Tryz.func159,Tryz.ntmps159
  go_wp2
  go_ret
  rw[HE.out];exact⟨rfl,rfl⟩
 by_cases h1:64≤i
 ·have HE:Hid (Q.one i=0):=by unfold Hid Q.one;rw[if_pos (Or.inr h1)]
  go_enter Tryz.func159,Tryz.ntmps159
  go_wp2
  go_ret
  rw[HE.out];exact⟨rfl,rfl⟩
 ·have HE:Hid (IntKind.u64.wrap ((2:Int) ^ i.toNat)=(Q.one i:Nat)):=by unfold Hid Q.one;rw[if_neg (by omega)];exact zJQ _ (by omega)
  go_enter Tryz.func159,Tryz.ntmps159
  go_wp2
  go_ret
  exact⟨by first | (rw[← HE.out];rfl) | (simp;exact HE.out),rfl⟩
theorem zHs (s:Nat) (i:Int) (w:World) (hs:s<Q.M64) :
  Calls Tryz.prog 160 #[.int .u64 (s:Nat),.int .i64 i] w fun e w'=>e=.returned (.bool (Q.hasS s i))∧w'=w:=by
 have h1:=bits_and_u64_nat s (Q.one i) hs (Q.zQN i)
 have HE:Hid (Q.hasS s i=((s &&& Q.one i) != 0)):=rfl
 generalize (s &&& Q.one i)=x at *
 have hx2:Hid ((x != 0)=((x:Int) != 0)):=by unfold Hid;cases x<;>rfl
 cases hx:((x:Int) != 0)
 all_goals
  go_enter Tryz.func160,Tryz.ntmps160
  go_wp2_with (first | (go_at_call 159;refine (zFn _ _).mono ?_;rintro e w' ⟨rfl,rfl⟩))
  go_ret
  refine⟨?_,rfl⟩
  rw[HE.out,hx2.out,hx]
  first | rfl | simp
theorem zIM (s:Nat) (i:Int) (w:World) (hs:s<Q.M64) :
  Calls Tryz.prog 178 #[.int .u64 (s:Nat),.int .i64 i] w fun e w'=>e=.returned (.int .u64 (Q.moved s i:Nat))∧w'=w:=by
 by_cases h0:i<0
 ·have HE:Hid (Q.moved s i=0):=by unfold Hid Q.moved;rw[if_pos (Or.inl h0)]
  go_enter Tryz.func178,Tryz.ntmps178
  go_wp2
  go_ret
  rw[HE.out];exact⟨rfl,rfl⟩
 by_cases h1:64≤i
 ·have HE:Hid (Q.moved s i=0):=by unfold Hid Q.moved;rw[if_pos (Or.inr h1)]
  go_enter Tryz.func178,Tryz.ntmps178
  go_wp2
  go_ret
  rw[HE.out];exact⟨rfl,rfl⟩
 ·have HE:Hid (IntKind.u64.wrap ((s:Int)*(2:Int) ^ i.toNat)=(Q.moved s i:Nat)):=by
   unfold Hid Q.moved;rw[if_neg (by omega),IntKind.wrap_u64,Int.natCast_emod,Int.natCast_mul,Int.natCast_pow]
   rfl
  go_enter Tryz.func178,Tryz.ntmps178
  go_wp2
  go_ret
  exact⟨by first | (rw[← HE.out];rfl) | (simp;exact HE.out),rfl⟩
def zGa (l:List Nat):Array Value:=(l.map fun x=>Value.int .u64 (x:Nat)).toArray
theorem zGb (l:List Nat) (i:Nat) (h:i<l.length):(zGa l)[i]?=some (.int .u64 (l[i]:Nat)):=by simp[zGa,h]
theorem zIN (l:List Nat) (i x:Nat):(zGa l).setIfInBounds i (.int .u64 (x:Nat))=zGa (l.set i x):=by
 simp[zGa,List.map_set]
def zAw (w:World) (g:Nat) (l:List Nat):Prop:=w.heap[g]?=some (.cells (zGa l) 156 (0,0))
theorem zAw.lt {w:World} {g:Nat} {l:List Nat} (h:zAw w g l):g<w.heap.size:=(Array.getElem?_eq_some_iff.1 h).1
theorem zAw.of_block {w w':World} {g:Nat} {l:List Nat} (h:zAw w g l) (e:w'.heap[g]?=w.heap[g]?):zAw w' g l:=by unfold zAw at *;rw[e];exact h
theorem zAw.below {w w':World} {g:Nat} {l:List Nat} (h:zAw w g l) (hb:Below w.heap.size w w'):zAw w' g l:=h.of_block (hb.block g h.lt)
theorem zAw.alloc {w:World} {g:Nat} {l:List Nat} (h:zAw w g l) (o:Obj):zAw (w.alloc o) g l:=h.of_block (Below.heap_alloc _ _ _ h.lt)
theorem zAw.drew {w:World} {g:Nat} {l:List Nat} (h:zAw w g l):zAw w.drew g l:=h
theorem zAw.cell {w:World} {g:Nat} {l:List Nat} (h:zAw w g l) (i:Nat) (hi:i<l.length):w.cell? ⟨g,i,none⟩=some (.int .u64 (l[i]:Nat)):=by
 unfold zAw at h;simp only[World.cell?,h];exact zGb l i hi
theorem zAw.cellOf {w:World} {g:Nat} {l:List Nat} (h:zAw w g l) (i:Nat) (hi:i<l.length):w.cell? ⟨g,i,none⟩=some (.int .u64 (Q.ofR l (i:Int):Nat)):=by
 rw[Q.ofR_get l i hi];exact h.cell i hi
theorem zAw.free {w:World} {g:Nat} {l:List Nat} (h:zAw w g l) (i:Nat):w.frozen? ⟨g,i,none⟩=false:=by
 unfold zAw at h;simp[World.frozen?,h]
theorem zAw.set {w:World} {g:Nat} {l:List Nat} (h:zAw w g l) (i x:Nat):zAw (w.setCell ⟨g,i,none⟩ (.int .u64 (x:Nat))) g (l.set i x):=by
 unfold zAw at *;rw[zAe h,zIN]
theorem zDN (g n:Nat) (l:List Nat) (a:Int) (w:World) (h:zAw w g l) (hn:n=l.length) (hl:n≤64) :
  Calls Tryz.prog 115 #[.agg #[.slice (some ⟨g,0,none⟩) n n],.int .i64 a] w fun e w'=>e=.returned (.int .u64 (Q.ofR l a:Nat))∧Below w.heap.size w w':=by
 have hglt:=h.lt
 by_cases h0:a<0
 ·have HE:Hid (Q.ofR l a=0):=Q.zQO l a (Or.inl h0)
  clear h
  go_enter Tryz.func115,Tryz.ntmps115
  go_wp2
  go_ret
  rw[HE.out];exact⟨rfl,(Below.refl _ _).alloc (Nat.le_refl _) _⟩
 have hd0:decide (a<0)=false:=by simpa using h0
 by_cases h1:(n:Int)≤a
 ·have HE:Hid (Q.ofR l a=0):=Q.zQO l a (Or.inr (by omega))
  clear h
  go_enter Tryz.func115,Tryz.ntmps115
  go_wp2
  go_ret
  rw[HE.out];exact⟨rfl,(Below.refl _ _).alloc (Nat.le_refl _) _⟩
 ·obtain⟨i,rfl⟩:=Int.eq_ofNat_of_zero_le (by omega:0≤a)
  have hi:i<l.length:=by omega
  have c:=h.cellOf i hi
  have hin:(i:Int)<(n:Int):=by omega
  clear h hn
  generalize Q.ofR l (i:Int)=x at *
  go_enter Tryz.func115,Tryz.ntmps115
  go_wp2
  go_ret
  exact⟨rfl,(Below.refl _ _).alloc (Nat.le_refl _) _⟩
theorem zBZ (g n:Nat) (l:List Nat) (a b:Int) (w:World) (h:zAw w g l) (hn:n=l.length) (hf:Q.Fits l) :
  Calls Tryz.prog 112 #[.agg #[.slice (some ⟨g,0,none⟩) n n],.int .i64 a,.int .i64 b] w fun e w'=>e=.returned (.bool (Q.hasR l a b))∧Below w.heap.size w w':=by
 have hlen:=hf.len
 have HF:=zAa hf
 have HA:=zAa (h.alloc (.cells #[.slice (some ⟨g,0,none⟩) n n] 68))
 have HN:=zAa hn
 have hglt:=h.lt
 clear hf h hn
 go_enter Tryz.func112,Tryz.ntmps112
 go_wp2_with (first
  | (go_at_call 115;refine (zDN g n l a _ HA.out HN.out (by have:=HN.out;omega)).mono ?_;rintro e w1 ⟨rfl,hb⟩)
  | (go_at_call 160;refine (zHs _ _ _ (Q.zPb HF.out a)).mono ?_;rintro e w' ⟨rfl,rfl⟩))
 go_ret
 exact⟨rfl,((Below.refl _ _).alloc (Nat.le_refl _) _).trans (hb.mono (by simp))⟩
end Go.Proofs.YtgceflcbckjjiaaGreatDoor
namespace Go.Proofs.YtgceflcbckjjiaaGreatDoor
namespace P
structure Thr where
 block:Int
 line:Int
 stmts:List Stm
structure Rd where
 threads:List Thr
 line:Int
 count:Int
 ifs:Int
 opn:List Int
 most:Int
def Rd.zero:Rd:=⟨[],0,0,0,[],8⟩
def putLast:List Thr→Stm→List Thr
 | [],_=>[]
 | [t],s=>[{ t with stmts:=t.stmts++[s] }]
 | t::u::r,s=>t::putLast (u::r) s
theorem zPK (ts:List Thr) (t:Thr) (s:Stm):putLast (ts++[t]) s=ts++[{ t with stmts:=t.stmts++[s] }]:=by
 induction ts with
 | nil=>rfl
 | cons a r ih=>cases r with
  | nil=>rfl
  | cons b q=>simpa [putLast] using ih
theorem putLast_length (ts:List Thr) (s:Stm):(putLast ts s).length=ts.length:=by
 match ts with
 | []=>rfl
 | [_]=>rfl
 | t::u::r=>simpa [putLast] using putLast_length (u::r) s
def put (r:Rd) (s:Stm):Rd:={ r with threads:=putLast r.threads s }
def ends (r:Rd) (s:Stm):Rd × Bool :=
 match r.opn.getLast? with
 | none=>(r,false)
 | some l=>(put { r with opn:=r.opn.dropLast } { s with label:=l },true)
def zQf (r:Rd) (s:Stm):Rd × Bool :=
 if 2≤r.opn.length then (r,false) else (put { r with ifs:=r.ifs+1,opn:=r.opn++[r.ifs+1] } { s with label:=r.ifs+1 },true)
def zPc (r:Rd) (ws:List (List UInt8)):Rd × Bool :=
 if 4≤r.threads.length∨0<r.opn.length then (r,false)
 else match ws with
  | [_,[c]]=>if (digit c 2).2 then ({ r with threads:=r.threads++[⟨(digit c 2).1,r.line,[]⟩],count:=0 },true) else (r,false)
  | _=>(r,false)
def takes (r:Rd) (ws:List (List UInt8)):Rd × Bool :=
 if ws.head?==some [116,104,114,101,97,100] then zPc r ws
 else if r.threads.isEmpty then (r,false)
 else
  let st:={ (zOk ws).1 with line:=r.line }
  if (zOk ws).2 then
   if st.kind==11 then ends r st
   else if 8≤r.count then (r,false)
   else if st.kind==10 then
    if 2≤r.opn.length then ({ r with count:=r.count+1 },false) else zQf { r with count:=r.count+1 } st
   else (put { r with count:=r.count+1 } st,true)
  else (r,false)
def zPd (r:Rd) (b l:Int):Rd × Bool :=
 if 4≤r.threads.length∨0<r.opn.length then (r,false) else ({ r with threads:=r.threads++[⟨b,l,[]⟩],count:=0 },true)
def putD (r:Rd) (st:Stm):Rd × Bool :=
 if r.threads.isEmpty then (r,false)
 else if st.kind==11 then ends r st
 else if r.most≤r.count then (r,false)
 else if st.kind==10 then
  if 2≤r.opn.length then ({ r with count:=r.count+1 },false) else zQf { r with count:=r.count+1 } st
 else (put { r with count:=r.count+1 } st,true)
theorem begins_D (r:Rd) (a:List UInt8) (c:UInt8):zPc r [a,[c]]=if (digit c 2).2 then zPd r (digit c 2).1 r.line else (r,false):=by
 unfold zPc zPd
 by_cases h:4≤r.threads.length∨0<r.opn.length
 ·simp only[if_pos h];split<;>rfl
 ·simp only[if_neg h]
theorem takes_D (r:Rd) (c:List UInt8) (rs:List (List UInt8)) (h:(c==[116,104,114,101,97,100])=false) (hm:r.most=8) :
  takes r (c::rs)=if (zOk (c::rs)).2 then putD r { (zOk (c::rs)).1 with line:=r.line } else (r,false):=by
 have h':((c::rs).head?==some [116,104,114,101,97,100])=false:=by simpa using h
 unfold takes putD
 rw[h',hm]
 simp only[Bool.false_eq_true,if_false]
 cases ht:r.threads.isEmpty
 ·simp only[Bool.false_eq_true,if_false]
 ·simp
theorem beginD_keep (r:Rd) (b l:Int):(zPd r b l).1.line=r.line∧(zPd r b l).1.most=r.most:=by
 unfold zPd;split<;>exact⟨rfl,rfl⟩
theorem ends_keep (r:Rd) (s:Stm):(ends r s).1.line=r.line∧(ends r s).1.most=r.most:=by
 unfold ends;split<;>exact⟨rfl,rfl⟩
theorem branch_keep (r:Rd) (s:Stm):(zQf r s).1.line=r.line∧(zQf r s).1.most=r.most:=by
 unfold zQf;split<;>exact⟨rfl,rfl⟩
theorem putD_keep (r:Rd) (s:Stm):(putD r s).1.line=r.line∧(putD r s).1.most=r.most:=by
 unfold putD
 split
 ·exact⟨rfl,rfl⟩
 split
 ·exact ends_keep r s
 split
 ·exact⟨rfl,rfl⟩
 split
 ·split
  ·exact⟨rfl,rfl⟩
  ·exact branch_keep _ s
 ·exact⟨rfl,rfl⟩
theorem begins_keep (r:Rd) (ws:List (List UInt8)):(zPc r ws).1.line=r.line∧(zPc r ws).1.most=r.most:=by
 unfold zPc
 split
 ·exact⟨rfl,rfl⟩
 split
 ·split<;>exact⟨rfl,rfl⟩
 ·exact⟨rfl,rfl⟩
theorem zQg (r:Rd) (ws:List (List UInt8)) (hm:r.most=8):(takes r ws).1.line=r.line∧(takes r ws).1.most=8:=by
 cases ws with
 | nil =>
  unfold takes
  simp only[List.head?_nil]
  have:((none:Option (List UInt8))==some [116,104,114,101,97,100])=false:=rfl
  rw[this]
  simp only[Bool.false_eq_true,if_false]
  have hs:(zOk []).2=false:=by rfl
  rw[hs]
  simp only[Bool.false_eq_true,if_false]
  split<;>exact⟨rfl,hm⟩
 | cons c rs =>
  cases h:(c==[116,104,114,101,97,100])
  ·rw[takes_D r c rs h hm]
   split
   ·have:=putD_keep r { (zOk (c::rs)).1 with line:=r.line }
    exact⟨this.1,this.2.trans hm⟩
   ·exact⟨rfl,hm⟩
  ·have h':((c::rs).head?==some [116,104,114,101,97,100])=true:=by simpa using h
   unfold takes
   rw[h',if_pos rfl]
   have:=begins_keep r (c::rs)
   exact⟨this.1,this.2.trans hm⟩
end P
end Go.Proofs.YtgceflcbckjjiaaGreatDoor
