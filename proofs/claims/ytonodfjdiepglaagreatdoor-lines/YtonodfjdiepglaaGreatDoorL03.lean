import Derived.Deep.MidRow
import Derived.Lib.ItoaNum
import Derived.Lib.ItoaWalk
import Derived.Laws.IdiomStrings
import Derived.Deep.RegionHeld3
import Derived.Test.YtonodfjdiepglaaGreatDoorL02
set_option linter.unusedVariables false
set_option linter.unusedSimpArgs false
set_option maxHeartbeats 12800000
namespace Go.Proofs.YtonodfjdiepglaaGreatDoor
open Go Go.RowKit Go.Proofs.Tryz P R
set_option maxRecDepth 1000000
variable {b g:Nat} {e:TypeId} {w w0 w1 w2:World} {ops:Array Oper} {op:Oper} {a:Act} {Q:Exit->Act->World->Prop} {fn:Func} {p u:Tmp} {ws:List ByteArray}
open UInt8 renaming ofNat→xF
open Go.Lib renaming decDigits→xR
open Go.Result renaming andThen_ok→xW
open Nat renaming le_refl→x1
open Go.RowKit.Below renaming refl→x2
open _root_.ByteArray renaming toList→x3
open List renaming map_cons→x4
open Go.World renaming setCells→x5
open _root_.Array renaming getElem?_eq_none→x6
open Go.Value renaming oneCell'→x7
def pF (cur:Array Value) (o:Nat):List Value->Array Value
 | []=>cur
 | v::r=>pF (cur.setIfInBounds o v) (o+1) r
theorem uQ {g:Nat} {e:TypeId} {d:Nat × Nat}:∀ (f:List Value) (o:Nat) (w:World) (c:Array Value),w.heap[g]?=some (.cells c e d)->(w.setCells g o f).heap[g]?=some (.cells (pF c o f) e d)
 | [],_,_,_,h=>h
 | v::r,o,w,c,h=>by
  rw[x5];exact uQ r (o+1) _ _ (bH h o v)
theorem DT {g:Nat}:∀ (c:List Value) (o:Nat) (w:World),w.grownBy (w.setCells g o c) (some g)
 | [],_,w=>jM w _
 | v::r,o,w=>by
  rw[x5];exact yN (gD (jM _ _) _ _) (DT r (o+1) _)
theorem zFf (d:List Value):∀ (o:Nat) (c:Array Value),(pF c o d).size=c.size:=by
 induction d with
 | nil=>intro o c;rfl
 | cons v r ih=>intro o c;rw[pF,ih];simp
theorem zDG (d:List Value):∀ (o:Nat) (c:Array Value) (j:Nat),o+d.length<=c.size->(pF c o d)[j]?=if o<=j/\j<o+d.length then d[j-o]? else c[j]?:=by
 induction d with
 | nil=>intro o c j _;simp[pF];omega
 | cons v r ih =>
  intro o c j h;simp at h;rw[pF,ih _ _ _ (by simp;omega)];by_cases h1:o=j
  ·subst h1;rw[if_neg (by omega),if_pos (by simp)];simp[Array.getElem?_setIfInBounds];omega
  ·by_cases h2:o+1<=j/\j<o+1+r.length
   ·rw[if_pos h2,if_pos (by simp;omega)];rw[show j-o=(j-(o+1))+1 by omega];simp
   ·rw[if_neg h2,if_neg (by simp;omega)];simp[h1]
theorem zDH (c bT:Array Value) (h:c.size=bT.size):pF c 0 bT.toList=bT:=by
 apply Array.ext_getElem?;intro j;rw[zDG _ _ _ _ (by simp;omega)];by_cases h1:j<bT.size
 ·rw[if_pos (by simp;omega)];simp
 ·rw[if_neg (by simp;omega),x6 (by omega),x6 (by omega)]
theorem DZ {cs:Array Value} (c:w.heap[g]?=some (.cells cs e (0,0))):w.rangeAt g 0 cs.toList:=by
 intro j v d;simp[World.cell?,c];simpa using d
theorem zCX {cs:Array Value} (c:w.heap[g]?=some (.cells cs e (0,0))) (n:Nat) (f:n<=cs.size):w.there g 0 n:=by
 intro j d;simp[World.cell?,World.frozen?,c];omega
variable {Pg:Program}
theorem qX (w:World) (g:Nat) (c:TypeId) (cs:Array Value) (e:TypeId) (i:w.heap[g]?=some (.cells cs e (0,0))) (d:TypeDesc) (k:Pg.underlying c=some d) (f:d.isRow=true) (j:(Pg.info? c).map (·.size)=some cs.size) :
  (loadVar c ⟨g,0,none⟩).run Pg w=.ok (.agg cs) w:=by
 have:=run_loadVar_mid (P:=Pg) w g 0 c cs.toList d (DZ i) k f (by simpa using j);simpa using this
theorem FB {rest:List Oper} (f:op.guard=none) (c:TypeId) (x:Operand) (l:op.op=.load c x)
  (g:Nat) (n:a.eval x=.pointer (some ⟨g,0,none⟩)) (cs:Array Value) (e:TypeId) (j:w.heap[g]?=some (.cells cs e (0,0))) (d:TypeDesc)
  (m:Pg.underlying c=some d) (i:d.isRow=true) (k:(Pg.info? c).map (·.size)=some cs.size)
  (h:wpList Pg ops Q rest (a.put op.dst (.agg cs)) w):wpList Pg ops Q (op::rest) a w :=
 wpList_load_mid f c x l g 0 n cs.toList d (DZ j) m i (by simpa using k) (by simpa using h)
theorem BQ {rest:List Oper} (d:op.guard=none) (i:TypeId) (x y:Operand) (n:op.op=.store i x y)
  (g:Nat) (c cs:Array Value) (e:TypeId) (o:a.eval x=.pointer (some ⟨g,0,none⟩)) (q:a.eval y=.agg c) (k:w.heap[g]?=some (.cells cs e (0,0))) (f:cs.size=c.size)
  (m:(Pg.info? i).map (·.size)=some c.size) (l:c.all (·.oneCell')=true)
  (h:∀ w',w'.heap[g]?=some (.cells c e (0,0))->w.grownBy w' (some g)->wpList Pg ops Q rest (a.put op.dst undef) w'):wpList Pg ops Q (op::rest) a w:=by
 refine wpList_store_mid d i x y n g 0 c o q (zCX k _ (by omega)) m l ?_;have j:=uQ c.toList 0 w cs k;rw[zDH cs c f] at j;exact h _ j (DT _ _ _)
theorem pR {rest:List Oper} (x:Operand) (c:op.guard=none) (i:op.op=.load 109 x)
  (g:Nat) (d:Stm) (j:a.eval x=.pointer (some ⟨g,0,none⟩)) (f:bC w g d)
  (h:wpList prog ops Q rest (a.put op.dst (.agg (aQ d))) w):wpList prog ops Q (op::rest) a w :=
 FB c _ x i g j _ _ f _ underlying109 rfl (by kernel_rfl) h
theorem yF {rest:List Oper} (x y:Operand) (c:op.guard=none) (i:op.op=.store 109 x y)
  (g:Nat) (d t:Stm) (j:a.eval x=.pointer (some ⟨g,0,none⟩)) (k:a.eval y=.agg (aQ t)) (f:bC w g d)
  (h:∀ w',bC w' g t->w.grownBy w' (some g)->wpList prog ops Q rest (a.put op.dst undef) w'):wpList prog ops Q (op::rest) a w :=
 BQ c _ x y i g (aQ t) (aQ d) _ j k f rfl (by kernel_rfl) (by simp[aQ,x7]) h
theorem zJO {c:Stm} (h:bC w g c):(loadVar 109 ⟨g,0,none⟩).run prog w=.ok (.agg (aQ c)) w :=
 qX w g _ _ _ h _ underlying109 rfl (by kernel_rfl)
def mC (r:Stm × Bool):Value:=.tuple #[.agg (aQ r.1),.bool r.2]
theorem vM {R:Ending->World->Prop} (g:Nat) (f:Stm) (d:Bool) (c:fn.results=#[.cell p 109,.tmp u])
  (k:a.tmps.getD p undef=.pointer (some ⟨g,0,none⟩)) (l:a.tmps.getD u undef=.bool d) (h:bC w g f) (j:a.defers=[]) (i:R (.returned (mC (f,d))) w):bodyPost prog fn R .ret a w:=by
 refine bodyPost_ret (v:=mC (f,d)) ?_ j i;rw[results_cell_tmp c,k,l];have:(asAddr (.pointer (some ⟨g,0,none⟩))).run prog w=.ok ⟨g,0,none⟩ w:=rfl;rw[this,xW,zJO h,xW];rfl
namespace R
def cW:ByteArray:=⟨#[98,97,114,114,105,101,114]⟩
def kAe:ByteArray:=⟨#[102,101,110,99,101]⟩
def cO:ByteArray:=⟨#[115,116,111,114,101]⟩
def cN:ByteArray:=⟨#[108,111,97,100]⟩
def kAA:ByteArray:=⟨#[115,101,116]⟩
def mD:List UInt8:=[97,99,113,114,101,108,32,115,99]
def mT:List UInt8:=[119,101,97,107,32,114,101,108,97,120,101,100,32,114,101,108,101,97,115,101]
def nC:List UInt8:=[119,101,97,107,32,114,101,108,97,120,101,100,32,97,99,113,117,105,114,101]
def iK:List UInt8:=[114,101,108,97,120,101,100,32,97,99,113,117,105,114,101,32,114,101,108,101,97,115,101,32,97,99,113,114,101,108]
def x0:Lh:=⟨⟨#[]⟩, -1, -1,0,0,⟨#[]⟩,⟨#[]⟩,⟨#[]⟩⟩
def z0:Lh:=⟨⟨#[]⟩,0,0,0,0,⟨#[]⟩,⟨#[]⟩,⟨#[]⟩⟩
def oN (p v:ByteArray) (r:List ByteArray):Lh × Bool :=
 let h:=how { x0 with op:=cO,var:=inn p.toList bO,a:=(aW v.toList).1 } mT r
 (h.1,(aW v.toList).2&&h.2&&decide (0<=inn p.toList bO))
def mR (d p:ByteArray) (r:List ByteArray):Lh × Bool :=
 let h:=how { x0 with reg:=inn d.toList regs,op:=cN,var:=inn p.toList bO } nC r
 (h.1,decide (0<=inn d.toList regs)&&h.2&&decide (0<=inn p.toList bO))
def lE (d c p v:ByteArray) (r:List ByteArray):Lh × Bool :=
 let h:=how { x0 with reg:=inn d.toList regs,op:=c,var:=inn p.toList bO,a:=(aW v.toList).1 } iK r
 (h.1,decide (0<=inn d.toList regs)&&h.2&&(aW v.toList).2&&decide (0<=inn p.toList bO))
def lB (d a:ByteArray):Lh × Bool :=
 ({ x0 with reg:=inn d.toList regs,op:=kAA,a:=(aW a.toList).1 },decide (0<=inn d.toList regs)&&(aW a.toList).2)
def mU (d a s b:ByteArray):Lh × Bool :=
 ({ x0 with reg:=inn d.toList regs,op:=kAA,a:=(aW a.toList).1,sign:=s,b:=(aW b.toList).1 },decide (0<=inn d.toList regs)&&(aW a.toList).2&&(aW b.toList).2&&decide (0<=inn s.toList iZ))
def yP (d a:ByteArray):Lh × Bool:=({ x0 with reg:=inn d.toList regs,op:=kAA,a:=(aW a.toList).1 },false)
def kJ (d c:ByteArray) (r:List ByteArray):Lh × Bool :=
 if c.toList==[108,111,97,100]&&decide (2<=r.length) then
  match r with
  | p::q=>mR d p q
  | []=>(x0,false)
 else if (c.toList==[97,100,100]||c.toList==[115,119,97,112])&&decide (3<=r.length) then
  match r with
  | p::v::q=>lE d c p v q
  | _=>(x0,false)
 else match r with
  | []=>lB d c
  | [s,b]=>mU d c s b
  | _=>yP d c
def fG (c:ByteArray) (r:List ByteArray):Lh × Bool :=
 if c.toList==[98,97,114,114,105,101,114] then ({ x0 with op:=cW },r.isEmpty)
 else if c.toList==[102,101,110,99,101] then how { x0 with op:=kAe } mD r
 else if c.toList==[115,116,111,114,101]&&decide (3<=r.length) then
  match r with
  | p::v::q=>oN p v q
  | _=>(x0,false)
 else match r with
  | e::d::q=>if e.toList==[61] then kJ c d q else (x0,false)
  | _=>(x0,false)
end R
theorem oV {rest:List Oper} (x:Operand) (c:op.guard=none) (i:op.op=.load 44 x)
  (g:Nat) (y:Lh) (d:Value) (j:a.eval x=.pointer (some ⟨g,0,none⟩)) (f:zBG w g y d)
  (h:wpList prog ops Q rest (a.put op.dst (.agg (bV y d))) w):wpList prog ops Q (op::rest) a w :=
 FB c _ x i g j _ _ f _ underlying44 rfl (by kernel_rfl) h
theorem nL {rest:List Oper} (x y:Operand) (f:op.guard=none) (k:op.op=.store 44 x y)
  (g:Nat) (z t:Lh) (i c:Value) (d:c.oneCell'=true) (l:a.eval x=.pointer (some ⟨g,0,none⟩)) (m:a.eval y=.agg (bV t c)) (j:zBG w g z i)
  (h:∀ w',zBG w' g t c->w.grownBy w' (some g)->wpList prog ops Q rest (a.put op.dst undef) w'):wpList prog ops Q (op::rest) a w :=
 BQ f _ x y k g (bV t c) (bV z i) _ l m j rfl (by kernel_rfl) (by simp[bV,d];simp[x7]) h
def jN (r:Lh × Bool):Value:=.tuple #[.agg (bV r.1 (.slice none 0 0)),.bool r.2]
theorem eR {Q:Ending->World->Prop} (g:Nat) (x:Lh) (d:Bool) (c:fn.results=#[.cell p 44,.tmp u])
  (j:a.tmps.getD p undef=.pointer (some ⟨g,0,none⟩)) (k:a.tmps.getD u undef=.bool d) (h:zBG w g x (.slice none 0 0)) (i:a.defers=[]) (f:Q (.returned (jN (x,d))) w):bodyPost prog fn Q .ret a w:=by
 refine bodyPost_ret (v:=jN (x,d)) ?_ i f;rw[results_cell_tmp c,j,k];have:(asAddr (.pointer (some ⟨g,0,none⟩))).run prog w=.ok ⟨g,0,none⟩ w:=rfl;rw[this,xW,qX w g _ _ _ h _ underlying44 rfl (by kernel_rfl),xW];rfl
structure StAt (w0 w1:World) (b off:Nat) (ws:List ByteArray) (x:Lh):Prop where
 xat:zBG w1 (w0.heap.size+1) x (.slice none 0 0)
 res:zBG w1 w0.heap.size z0 (.slice none 0 0)
 words:zAp w1 b off ws
 bel:Below w0.heap.size w0 w1
theorem StAt.start (w:World) (b off:Nat) (ws:List ByteArray) (x:Lh) (c:zAp w b off ws):StAt w ((w.alloc (.cells (bV z0 (.slice none 0 0)) 44)).alloc (.cells (bV x (.slice none 0 0)) 44)) b off ws x:=by
 refine⟨?_,(zBG.bT w z0 _).alloc _,(c.alloc _).alloc _,((x2 _ _).alloc (x1 _) _).alloc (by simp) _⟩;have:=zBG.bT (w.alloc (.cells (bV z0 (.slice none 0 0)) 44)) x (.slice none 0 0);simpa using this
theorem StAt.below {off:Nat} {x:Lh} (h:StAt w0 w1 b off ws x) (c:Below w1.heap.size w1 w2):StAt w0 w2 b off ws x :=
 ⟨h.xat.below c,h.res.below c,h.words.below c,h.bel.trans (c.mono h.bel.size)⟩
theorem StAt.set {off:Nat} {x:Lh} (y:Lh) (h:StAt w0 w1 b off ws x) (c:b<w0.heap.size) (i:Nat) (u:Value) (e:(bV x (.slice none 0 0)).setIfInBounds i u=bV y (.slice none 0 0)):StAt w0 (w1.setCell ⟨w0.heap.size+1,i,none⟩ u) b off ws y :=
 ⟨h.xat.set y i u e,h.res.aA (Below.heap_setCell _ _ _ _ (by simp)),h.words.set (by omega) _ _,h.bel.setCell (by simp) _⟩
theorem StAt.how {off:Nat} {x y:Lh} (h:StAt w0 w1 b off ws x) (f:b<w0.heap.size) (d:zBG w2 (w0.heap.size+1) y (.slice none 0 0)) (c:w1.grownBy w2 (some (w0.heap.size+1))):StAt w0 w2 b off ws y :=
 ⟨d,h.res.aA (c.block _ h.res.lt (by simp)),h.words.grown c (by omega),kM h.bel c (by omega)⟩
theorem StAt.done {off:Nat} {x:Lh} (h:StAt w0 w1 b off ws x) (c:w1.grownBy w2 (some w0.heap.size)):Below w0.heap.size w0 w2:=kM h.bel c (x1 _)
theorem zAp.drop {off:Nat} (h:zAp w b off ws) (k:Nat):zAp w b (off+k) (ws.drop k):=by
 intro i s c;have:=h (k+i) s (by simpa using c);rw[show off+k+i=off+(k+i) by omega];exact this
namespace P
def bP (n:Int):List UInt8:=xR n.toNat
def bQ (n:Int):List UInt8:=[37,114]++bP n
def DN (v:Int):List UInt8:=if v==0 then [120] else if v==1 then [121] else [122]
def kCm (o:Opd):List UInt8:=if o.reg then bQ o.n else bP o.n
def wI (o:Int):List UInt8 :=
 if o==1 then [114,101,108,97,120,101,100] else if o==2 then [97,99,113,117,105,114,101] else if o==3 then [114,101,108,101,97,115,101]
 else if o==4 then [97,99,113,95,114,101,108] else [115,99]
def kGZ (st:Stm):List UInt8 :=
 if st.order==0 then [46,119,101,97,107] else [46]++wI st.order++(if st.scope==0 then [46,99,116,97] else [46,103,112,117])
def cX (v:Int):List UInt8:=[91]++DN v++[93]
def kAO (n:Int):List UInt8:=[76]++bP n
def kBx (st:Stm):List UInt8 :=
 if st.kind==0 then [108,100]++kGZ st++[32]++bQ st.dest++[44,32]++cX st.var
 else if st.kind==1 then [115,116]++kGZ st++[32]++cX st.var++[44,32]++kCm st.a
 else if st.kind==2 then [97,116,111,109,46,97,100,100]++kGZ st++[32]++bQ st.dest++[44,32]++cX st.var++[44,32]++kCm st.a
 else if st.kind==3 then [97,116,111,109,46,101,120,99,104]++kGZ st++[32]++bQ st.dest++[44,32]++cX st.var++[44,32]++kCm st.a
 else if st.kind==4 then [102,101,110,99,101]++kGZ st
 else if st.kind==5 then [98,97,114,46,115,121,110,99]
 else if st.kind==6 then [109,111,118,32]++bQ st.dest++[44,32]++kCm st.a
 else if st.kind==7 then [97,100,100,32]++bQ st.dest++[44,32]++kCm st.a++[44,32]++kCm st.b
 else if st.kind==8 then [115,117,98,32]++bQ st.dest++[44,32]++kCm st.a++[44,32]++kCm st.b
 else if st.kind==9 then [115,101,116,101,113,32]++bQ st.dest++[44,32]++kCm st.a++[44,32]++kCm st.b
 else if st.kind==11 then kAO st.label++[58]
 else [98,122,32]++kCm st.a++[44,32]++kAO st.label
theorem kLH (n:Int) (h:n<100):(bP n).length<=2:=by
 have:∀ i:Fin 100,(xR i.1).length<=2:=by decide +kernel
 unfold bP;by_cases h0:0<=n
 ·exact this ⟨n.toNat,by omega⟩
 ·rw[show n.toNat=0 by omega];exact this ⟨0,by omega⟩
theorem kHt (c:UInt8) (n:Int) (h:(gT c n).2=true):0<=(gT c n).1/\(gT c n).1<n:=by
 simp[gT] at h ⊢;omega
theorem kHH (l:List UInt8) (h:(cD l).2=true):0<=(cD l).1/\(cD l).1<4:=by
 unfold cD at h ⊢
 split at h
 ·split at h
  ·rename_i c;simp only[if_pos c];exact kHt _ _ h
  ·simp at h
 ·simp at h
theorem rX (l:List UInt8) (h:(cA l).2=true):0<=(cA l).1.n/\(cA l).1.n<4:=by
 unfold cA at h ⊢
 split at h
 ·exact kHt _ _ h
 ·exact kHH _ h
end P
theorem sQ (v l:List UInt8) (ws:List (List UInt8)) (h:zMi 32 l=ws):inn v l=eS v 0 ws:=by unfold inn;rw[h]
theorem zGV (v:List UInt8):inn v bO=if v=[120] then 0 else if v=[121] then 1 else if v=[122] then 2 else -1:=by
 rw[sQ v bO [[120],[121],[122]] (by decide)];by_cases h1:v=[120]
 ·subst h1;decide
 by_cases h2:v=[121]
 ·subst h2;decide
 by_cases h3:v=[122]
 ·subst h3;decide
 simp[eS,Ne.symm h1,Ne.symm h2,Ne.symm h3,h1,h2,h3]
theorem CM (v:List UInt8):(eQ v).2=decide (0<=inn v bO)/\((eQ v).2=true->(eQ v).1=inn v bO):=by
 rw[zGV];unfold eQ;by_cases h1:v=[120]
 ·subst h1;decide
 by_cases h2:v=[121]
 ·subst h2;decide
 by_cases h3:v=[122]
 ·subst h3;decide
 simp[h1,h2,h3]
theorem tW (v:List UInt8):inn v regs=if v=[114,48] then 0 else if v=[114,49] then 1 else if v=[114,50] then 2 else if v=[114,51] then 3 else -1:=by
 rw[sQ v regs [[114,48],[114,49],[114,50],[114,51]] (by decide)];by_cases h1:v=[114,48]
 ·subst h1;decide
 by_cases h2:v=[114,49]
 ·subst h2;decide
 by_cases h3:v=[114,50]
 ·subst h3;decide
 by_cases h4:v=[114,51]
 ·subst h4;decide
 simp[eS,Ne.symm h1,Ne.symm h2,Ne.symm h3,Ne.symm h4,h1,h2,h3,h4]
theorem zJP (v:List UInt8):inn v mZ=if v=[48] then 0 else if v=[49] then 1 else if v=[50] then 2 else if v=[51] then 3 else -1:=by
 rw[sQ v mZ [[48],[49],[50],[51]] (by decide)];by_cases h1:v=[48]
 ·subst h1;decide
 by_cases h2:v=[49]
 ·subst h2;decide
 by_cases h3:v=[50]
 ·subst h3;decide
 by_cases h4:v=[51]
 ·subst h4;decide
 simp[eS,Ne.symm h1,Ne.symm h2,Ne.symm h3,Ne.symm h4,h1,h2,h3,h4]
theorem zKG (c:UInt8):(gT c 4).2=true ↔ (c=48\/c=49\/c=50\/c=51):=by
 have:∀ c:Fin 256,(gT (xF c.1) 4).2=true ↔ (xF c.1=48\/xF c.1=49\/xF c.1=50\/xF c.1=51):=by decide +kernel
 have h:=this ⟨c.toNat,UInt8.toNat_lt c⟩;simpa using h
theorem sZ (v:List UInt8):(cD v).2=decide (0<=inn v regs)/\((cD v).2=true->(cD v).1=inn v regs):=by
 rw[tW];by_cases h1:v=[114,48]
 ·subst h1;decide
 by_cases h2:v=[114,49]
 ·subst h2;decide
 by_cases h3:v=[114,50]
 ·subst h3;decide
 by_cases h4:v=[114,51]
 ·subst h4;decide
 have i:(cD v).2=false:=by
  cases hr:(cD v).2
  ·rfl
  ·exfalso;unfold cD at hr
   split at hr
   ·rename_i c d
    split at hr
    ·rename_i f;subst f
     rcases (zKG d).1 hr with rfl | rfl | rfl | rfl
     ·exact h1 rfl
     ·exact h2 rfl
     ·exact h3 rfl
     ·exact h4 rfl
    ·simp at hr
   ·simp at hr
 rw[i];simp[h1,h2,h3,h4]
def FN (o:Opd):Int:=if o.reg then -1-o.n else o.n
theorem qR (v:List UInt8):(cA v).2=(aW v).2/\((cA v).2=true->FN (cA v).1=(aW v).1):=by
 by_cases h1:v=[114,48]
 ·subst h1;decide
 by_cases h2:v=[114,49]
 ·subst h2;decide
 by_cases h3:v=[114,50]
 ·subst h3;decide
 by_cases h4:v=[114,51]
 ·subst h4;decide
 by_cases k1:v=[48]
 ·subst k1;decide
 by_cases k2:v=[49]
 ·subst k2;decide
 by_cases k3:v=[50]
 ·subst k3;decide
 by_cases k4:v=[51]
 ·subst k4;decide
 have d:(cA v).2=false:=by
  cases hr:(cA v).2
  ·rfl
  ·exfalso;unfold cA at hr
   split at hr
   ·rename_i c
    rcases (zKG c).1 hr with rfl | rfl | rfl | rfl
    ·exact k1 rfl
    ·exact k2 rfl
    ·exact k3 rfl
    ·exact k4 rfl
   ·have:=(sZ v).1;simp only at hr;rw[this,tW] at hr;simp[h1,h2,h3,h4] at hr
 rw[d];unfold aW;rw[tW,zJP];simp[h1,h2,h3,h4,k1,k2,k3,k4]
theorem zCM (n:Nat) (h:n<10):xR n=[xF (48+n)]:=by
 rw[xR];simp[h]
theorem CP (n:Nat) (h:¬ n<10):xR n=xR (n / 10)++[xF (48+n % 10)]:=by
 rw[xR];simp[h]
theorem zT (w:World) (x:Int) (d:0<=x) (h:x<256):(convert 92 9 (.slice (some ⟨w.heap.size,0,none⟩) 1 1)).run prog (w.alloc (.cells #[.int .u8 x] 5))=.ok (.string ⟨#[xF x.toNat]⟩) (w.alloc (.cells #[.int .u8 x] 5)):=by
 refine run_convert_bytes_back (P:=prog) (w.alloc (.cells #[.int .u8 x] 5)) 92 9 5 ⟨w.heap.size,0,none⟩ 1 [xF x.toNat] underlying92 underlying5 underlying9 ?_;intro j c
 match j,c with
 | 0,_ =>
  simp[Addr.add];omega
theorem zIF (n:Int) (w:World) (d:0<=n) (h:n<10) :
  Calls prog 9 #[.int .i64 n] w fun e c=>∃ s,e=.returned (.string s)/\fM 1 s (bP n)/\Below w.heap.size w c:=by
 have f:=zT w (48+n % 10) (by omega) (by omega);go_enter func9,ntmps9;go_wp2;go_ret;refine⟨_,rfl,⟨?_,by simp[kA]⟩,(x2 _ _).alloc (x1 _) _⟩;rw[aP,bP,zCM _ (by omega),show (48+n % 10).toNat=48+n.toNat by omega]
theorem zKO (n:Int) (w:World) (k:10<=n) (h:n<100) :
  Calls prog 9 #[.int .i64 n] w fun e j=>∃ s,e=.returned (.string s)/\fM 2 s (bP n)/\Below w.heap.size w j:=by
 have l:=zT w (48+n % 10) (by omega) (by omega);have c:bP n=bP (n / 10)++[xF (48+n % 10).toNat]:=by
  unfold bP;rw[CP _ (by omega)];rw[show n.toNat / 10=(n / 10).toNat by omega,show 48+n.toNat % 10=(48+n % 10).toNat by omega]
 have f:=zAa c;clear c;go_enter func9,ntmps9;go_wp2_with (first | (go_at_call 9;refine (zIF (n / 10) _ (by omega) (by omega)).mono ?_;rintro e w1 ⟨s,rfl,d,i⟩;have m:=d.size));go_ret;refine⟨_,rfl,⟨?_,?_⟩,((x2 _ _).alloc (x1 _) _).trans (i.mono (by simp))⟩
 ·rw[kO,d.1,f.out,aP]
 ·simp[kA];omega
theorem zJQ (n:Int) (w:World) (f:0<=n) (h:n<100) :
  Calls prog 9 #[.int .i64 n] w fun e d=>∃ s,e=.returned (.string s)/\fM 2 s (bP n)/\Below w.heap.size w d:=by
 by_cases h1:n<10
 ·refine (zIF n w f h1).mono ?_;rintro e d ⟨s,rfl,c,i⟩;exact⟨s,rfl,⟨c.1,by have:=c.2;omega⟩,i⟩
 ·exact zKO n w (by omega) h
namespace R
def kBv (a:Int):List UInt8:=if a<0 then P.bQ (-1-a) else bP a
def BG (a b:List UInt8):Nat->List UInt8->List UInt8
 | 0,_=>[]
 | n+1,l =>
  if decide (a.length<=l.length)&&l.take a.length==a&&decide (0<l.length) then b++BG a b n (l.drop a.length)
  else match l with
   | []=>[]
   | x::r=>x::BG a b n r
def aqr:List UInt8:=[97,99,113,114,101,108]
def kMq:List UInt8:=[97,99,113,95,114,101,108]
def blk:List UInt8:=[98,108,111,99,107]
def cta:List UInt8:=[99,116,97]
def dvc:List UInt8:=[100,101,118,105,99,101]
def gpu:List UInt8:=[103,112,117]
def yJ (a b s:List UInt8):List UInt8:=BG a b (s.length+1) s
def kFF (ord scope:List UInt8):List UInt8 :=
 if ord==mQ then yJ aqr kMq ord else yJ aqr kMq ord++[46]++yJ dvc gpu (yJ blk cta scope)
end R
def oW:List UInt8:=[119,101,97,107]
def oR:List UInt8:=[114,101,108,97,120,101,100]
def oA:List UInt8:=[97,99,113,117,105,114,101]
def oL:List UInt8:=[114,101,108,101,97,115,101]
def oQ:List UInt8:=[97,99,113,114,101,108]
def oS:List UInt8:=[115,99]
theorem qK (o:List UInt8) (h:(order o).2=true):o=oW\/o=oR\/o=oA\/o=oL\/o=oQ\/o=oS:=by
 unfold order at h;by_cases h1:o=oW
 ·exact .inl h1
 by_cases h2:o=oR
 ·exact .inr (.inl h2)
 by_cases h3:o=oA
 ·exact .inr (.inr (.inl h3))
 by_cases h4:o=oL
 ·exact .inr (.inr (.inr (.inl h4)))
 by_cases h5:o=oQ
 ·exact .inr (.inr (.inr (.inr (.inl h5))))
 by_cases h6:o=oS
 ·exact .inr (.inr (.inr (.inr (.inr h6))))
 exfalso;simp only[oW,oR,oA,oL,oQ,oS] at h1 h2 h3 h4 h5 h6;simp[h1,h2,h3,h4,h5,h6] at h
theorem zHA (o:List UInt8) (c:¬ o=oW) (d:¬ o=oR) (f:¬ o=oA) (i:¬ o=oL) (j:¬ o=oQ) (k:¬ o=oS):(order o).2=false:=by
 cases h:(order o).2
 ·rfl
 ·rcases qK o h with h | h | h | h | h | h<;>contradiction
theorem zIG (s:List UInt8):(scope s).2=decide (0<=inn s rK)/\((scope s).2=true->s=[98,108,111,99,107]\/s=[100,101,118,105,99,101]):=by
 have e:zMi 32 rK=[[98,108,111,99,107],[100,101,118,105,99,101]]:=by decide
 rw[sQ s rK _ e];by_cases h1:s=[98,108,111,99,107]
 ·subst h1;decide
 by_cases h2:s=[100,101,118,105,99,101]
 ·subst h2;decide
 have:(scope s).2=false:=by unfold scope;simp[h1,h2]
 rw[this];simp[eS,Ne.symm h1,Ne.symm h2]
def qH (kind:Int) (orders:List UInt8):Prop:=∀ o,((order o).2&&zMU kind (order o).1)=decide (0<=inn o orders)
theorem tK (c:Int) (d:List UInt8) (ws:List (List UInt8)) (z:zMi 32 d=ws) (f:∀ x∈ws,x=oW\/x=oR\/x=oA\/x=oL\/x=oQ\/x=oS)
  (v:((order oW).2&&zMU c (order oW).1)=decide (0<=eS oW 0 ws)) (s:((order oR).2&&zMU c (order oR).1)=decide (0<=eS oR 0 ws)) (m:((order oA).2&&zMU c (order oA).1)=decide (0<=eS oA 0 ws))
  (n:((order oL).2&&zMU c (order oL).1)=decide (0<=eS oL 0 ws)) (q:((order oQ).2&&zMU c (order oQ).1)=decide (0<=eS oQ 0 ws)) (t:((order oS).2&&zMU c (order oS).1)=decide (0<=eS oS 0 ws)):qH c d:=by
 intro o;rw[sQ o d ws z];by_cases h1:o=oW
 ·subst h1;exact v
 by_cases h2:o=oR
 ·subst h2;exact s
 by_cases h3:o=oA
 ·subst h3;exact m
 by_cases h4:o=oL
 ·subst h4;exact n
 by_cases h5:o=oQ
 ·subst h5;exact q
 by_cases h6:o=oS
 ·subst h6;exact t
 rw[zHA o h1 h2 h3 h4 h5 h6];have:∀ (l:List (List UInt8)) (k:Int),(∀ x∈l,x=oW\/x=oR\/x=oA\/x=oL\/x=oQ\/x=oS)->eS o k l=-1:=by
  intro l
  induction l with
  | nil=>intro k _;rfl
  | cons x r ih =>
   intro k j;have i:(x==o)=false:=by
    cases hb:(x==o)
    ·rfl
    ·have e:x=o:=by simpa using hb
     subst e
     rcases j x (by simp) with h | h | h | h | h | h<;>contradiction
   simp only[eS,i];exact ih (k+1) (fun y A=>j y (by simp[A]))
 rw[this ws 0 f];rfl
theorem zGk:qH 4 mD:=tK 4 mD [oQ,oS] (by decide) (by decide) (by decide) (by decide) (by decide) (by decide) (by decide) (by decide)
theorem zGl:qH 1 mT:=tK 1 mT [oW,oR,oL] (by decide) (by decide) (by decide) (by decide) (by decide) (by decide) (by decide) (by decide)
theorem zHB:qH 0 nC:=tK 0 nC [oW,oR,oA] (by decide) (by decide) (by decide) (by decide) (by decide) (by decide) (by decide) (by decide)
theorem zIH:qH 2 iK:=tK 2 iK [oR,oA,oL,oQ] (by decide) (by decide) (by decide) (by decide) (by decide) (by decide) (by decide) (by decide)
theorem zHC:qH 3 iK:=tK 3 iK [oR,oA,oL,oQ] (by decide) (by decide) (by decide) (by decide) (by decide) (by decide) (by decide) (by decide)
def zLR (o:Int):List UInt8:=if o==0 then oW else if o==1 then oR else if o==2 then oA else if o==3 then oL else if o==4 then oQ else oS
def scW (o s:Int):List UInt8:=if o==0 then [] else if s==0 then [98,108,111,99,107] else [100,101,118,105,99,101]
structure OkOS (o s:Int):Prop where
 o0:0<=o
 o1:o<6
 s0:s=0\/s=1
 w:o=0->s=0
structure Same (st st':Stm) (x x':Lh):Prop where
 suf:kGZ st'=46::kFF x'.ord.toList x'.scope.toList
 sc:(st'.order==5)=(x'.ord.toList==oS)
 stm:st'={ st with order:=st'.order,scope:=st'.scope }
 ln:x'={ x with ord:=x'.ord,scope:=x'.scope }
 od:x'.ord.toList=zLR st'.order
 sp:x'.scope.toList=scW st'.order st'.scope
 ok:OkOS st'.order st'.scope
theorem yU (f:Stm) (x:Lh) (c:List UInt8) (B:qH f.kind c) (m:x.scope.toList=[]) (n:f.scope=0) (ws:List ByteArray) :
  (dY f (ws.map x3)).2=(how x c ws).2/\((how x c ws).2=true->Same f (dY f (ws.map x3)).1 x (how x c ws).1):=by
 match ws with
 | []=>exact⟨rfl,fun h=>by simp[how] at h⟩
 | o::r =>
  have t:=B o.toList;rw[x4]
  cases hk:decide (0<=inn o.toList c)
  ·rw[hk] at t;have A:dY f (o.toList::r.map x3)=(f,false):=by
    unfold dY;simp only[t];rfl
   rw[A];have z:inn o.toList c<0:=by have:=of_decide_eq_false hk;omega
   cases hw:(o.toList==mQ)
   ·rw[zPO x c o r hw z];simp
   ·rw[AM x c o r hw];simp[hk]
  ·rw[hk] at t;have y:0<=inn o.toList c:=of_decide_eq_true hk;obtain⟨j,q⟩:(order o.toList).2=true/\zMU f.kind (order o.toList).1=true:=by simpa using t
   cases hw:(o.toList==mQ)
   ·have k:((order o.toList).1==0)=false:=by
     have d:¬ o.toList=oW:=by intro e;rw[e] at hw;revert hw;decide
     rcases qK _ j with h | h | h | h | h | h
     ·exact absurd h d
     all_goals (rw[h];decide)
    match r with
    | []=>rw[DW x c o [] hw (by simp)];simp only[List.map_nil];rw[kEU f _ j q k];simp
    | [s] =>
     rw[zPy x c o s hw y];simp only[x4,List.map_nil];rw[kGV f _ _ j q k];have i:=zIG s.toList;refine⟨i.1,fun h=>?_⟩;rw[<- i.1] at h;refine⟨?_,?_,rfl,rfl,?_,?_,?_⟩
     ·have d:¬ o.toList=oW:=by intro e;rw[e] at hw;revert hw;decide
      unfold kGZ;simp only[k]
      rcases qK _ j with e | e | e | e | e | e
      ·exact absurd e d
      all_goals (rcases i.2 h with l | l<;>(simp only[e,l];decide))
     ·rcases qK _ j with e | e | e | e | e | e<;>(simp only[e];decide)
     ·rcases qK _ j with e | e | e | e | e | e<;>(simp only[e];decide)
     ·have d:¬ o.toList=oW:=by intro e;rw[e] at hw;revert hw;decide
      rcases qK _ j with e | e | e | e | e | e
      ·exact absurd e d
      all_goals (rcases i.2 h with l | l<;>(simp only[e,l];decide))
     ·have d:¬ o.toList=oW:=by intro e;rw[e] at hw;revert hw;decide
      rcases qK _ j with e | e | e | e | e | e
      ·exact absurd e d
      all_goals (rcases i.2 h with l | l<;>(simp only[e,l];exact⟨by decide,by decide,by decide,by decide⟩))
    | _::_::_=>rw[DW x c o _ hw (by simp)];simp only[x4];rw[kFT f _ _ _ _ j q k];simp
   ·have v:o.toList=oW:=by simpa [mQ,oW] using hw
    have C:(order o.toList).1=0:=by rw[v];decide
    rw[AM x c o r hw,kFQ f _ _ j q C];refine⟨by rw[hk];simp,fun _=>⟨?_,?_,rfl,rfl,?_,?_,?_⟩⟩
    ·unfold kGZ;simp only[v,m,n];decide
    ·simp only[v];decide
    ·simp only[v];decide
    ·simp only[m];rfl
    ·simp only[n];exact⟨by decide,by decide,by decide,fun _=>rfl⟩
namespace R
def cU:List UInt8:=[97,100,100]
def cT:List UInt8:=[115,119,97,112]
def cX (v:Int):List UInt8:=if 0<=v then [91]++DN v++[93] else []
def bQ (x:Lh):List UInt8:=kBv (-1-x.reg)
def kBw (x:Lh):List UInt8 :=
 if x.op.toList==cN.toList then [108,100,46]++kFF x.ord.toList x.scope.toList++[32]++bQ x++[44,32]++cX x.var
 else if x.op.toList==cO.toList then [115,116,46]++kFF x.ord.toList x.scope.toList++[32]++cX x.var++[44,32]++kBv x.a
 else if x.op.toList==cU then [97,116,111,109,46,97,100,100,46]++kFF x.ord.toList x.scope.toList++[32]++bQ x++[44,32]++cX x.var++[44,32]++kBv x.a
 else if x.op.toList==cT then [97,116,111,109,46,101,120,99,104,46]++kFF x.ord.toList x.scope.toList++[32]++bQ x++[44,32]++cX x.var++[44,32]++kBv x.a
 else if x.op.toList==kAe.toList then [102,101,110,99,101,46]++kFF x.ord.toList x.scope.toList
 else if x.op.toList==cW.toList then [98,97,114,46,115,121,110,99]
 else
  if inn x.sign.toList iZ<0 then [109,111,118,32]++bQ x++[44,32]++kBv x.a
  else (if inn x.sign.toList iZ==0 then [97,100,100] else if inn x.sign.toList iZ==1 then [115,117,98] else [115,101,116,101,113])++[32]++bQ x++[44,32]++kBv x.a++[44,32]++kBv x.b
def isR (x:Lh):Bool:=x.op.toList==cN.toList||x.op.toList==cU||x.op.toList==cT
def isW (x:Lh):Bool:=x.op.toList==cO.toList||x.op.toList==cU||x.op.toList==cT
def isF (x:Lh):Bool:=x.op.toList==kAe.toList&&x.ord.toList==oS
def isB (x:Lh):Bool:=x.op.toList==cW.toList
def sIf:ByteArray:=⟨#[105,102]⟩
def iA (a:Int):Lh:={ x0 with op:=sIf,a:=a }
structure Tree where
 mk ::
 x:Lh
 body:List Tree
structure Th where
 block:Int
 body:List Tree
 row:Int
structure Fr where
 l:List Tree
 a:Int
structure St where
 ts:List Th
 opn:List Fr
 count:Int
 inner:Int
def St.zero:St:=⟨[],[],0,0⟩
def pN:List Th->Tree->List Th
 | [],_=>[]
 | [t],s=>[{ t with body:=t.body++[s] }]
 | t::u::r,s=>t::pN (u::r) s
def rS:List Fr->Tree->List Fr
 | [],_=>[]
 | [t],s=>[{ t with l:=t.l++[s] }]
 | t::u::r,s=>t::rS (u::r) s
theorem zF (c:List Th) (t:Th) (s:Tree):pN (c++[t]) s=c++[{ t with body:=t.body++[s] }]:=by
 induction c with
 | nil=>rfl
 | cons a r ih=>cases r with
  | nil=>rfl
  | cons b q=>simpa [pN] using ih
theorem xA (c:List Fr) (t:Fr) (s:Tree):rS (c++[t]) s=c++[{ t with l:=t.l++[s] }]:=by
 induction c with
 | nil=>rfl
 | cons a r ih=>cases r with
  | nil=>rfl
  | cons b q=>simpa [rS] using ih
def put (s:St) (x:Tree):St:=if s.opn.isEmpty then { s with ts:=pN s.ts x } else { s with opn:=rS s.opn x }
def iU (l:List UInt8):ByteArray:=⟨l.toArray⟩
theorem pX (l:List UInt8):(iU l).toList=l:=by rw[iU,aP]
theorem sK (b:ByteArray):iU b.toList=b:=by
 rw[iU,kS]
def bM (p:Lh->Bool):List Tree->Int
 | []=>0
 | ⟨x,b⟩::r=>((if p x then 1 else 0)+bM p b)+bM p r
def kL (p:Lh->Bool) (t:Tree):Int:=(if p t.x then 1 else 0)+bM p t.body
theorem iI (p:Lh->Bool):bM p []=0:=by simp only[bM]
theorem lR (p:Lh->Bool) (t:Tree) (r:List Tree):bM p (t::r)=kL p t+bM p r:=by cases t;simp only[bM,kL]
def iW (f0 f1:Int):List Th->Int
 | []=>0
 | t::r =>
  let n:=bM isB t.body
  let f:=if t.block==0 then f0 else f1
  let g:=if f<0 then n else f
  if g != n||decide (2<n) then t.row
  else if t.block==0 then iW g f1 r else iW f0 g r
def fK (ts:List Th):Int:=iW (-1) (-1) ts
def dI (p:Lh->Bool):List Th->Int
 | []=>0
 | t::r=>bM p t.body+dI p r
def uP (ts:List Th):Bool:=decide (dI isR ts<=4)&&decide (dI isW ts<=3)&&decide (dI isF ts<=3)
def bA (c:UInt8):List UInt8->List UInt8
 | [a]=>if c=97 then [a] else [63]
 | [a,b,d]=>if c=118 then (if a=91/\d=93 then [b] else [63]) else if a=37 then [b,d] else [63]
 | _=>[63]
end R
theorem ba3 (t:ByteArray) (h:t.size=3):∃ a b d,t=⟨#[a,b,d]⟩:=by
 have c:t.toList.length=3:=by rw[bS];exact h
 match ht:t.toList,c with
 | [a,b,d],_=>exact⟨a,b,d,by rw[<- sK t,ht];rfl⟩
theorem ba1 (t:ByteArray) (h:t.size=1):∃ a,t=⟨#[a]⟩:=by
 have c:t.toList.length=1:=by rw[bS];exact h
 match ht:t.toList,c with
 | [a],_=>exact⟨a,by rw[<- sK t,ht];rfl⟩
theorem zGm (c:UInt8) (l:List UInt8) (f:l.length≠3) (d:l.length≠1):bA c l=[63]:=by
 match l,f,d with
 | [],_,_=>rfl
 | [_,_],_,_=>rfl
 | _::_::_::_::_,_,_=>rfl
theorem zJR (t:ByteArray) (c:UInt8) (w:World) :
  Calls prog 10 #[.string t,.int .u8 (c.toNat:Int)] w fun e l=>∃ r,e=.returned (.string r)/\r.toList=bA c t.toList/\r.size<=2/\l=w:=by
 have i:∀ (x:UInt8) (n:Nat),n<256->x≠xF n->((x.toNat:Int)==(n:Int))=false:=fun x n m h=>by
  rw[beq_eq_false_iff_ne];exact fun e=>h (by rw[<- UInt8.ofNat_toNat (x:=x)];congr 1;omega)
 by_cases h3:t.size=3
 ·obtain⟨a,b,d,rfl⟩:=ba3 t h3;clear h3;have f:(⟨#[a,b,d]⟩:ByteArray).toList=[a,b,d]:=aP #[a,b,d];by_cases c1:c=118
  ·subst c1;by_cases a1:a=91
   ·subst a1;by_cases d1:d=93
    ·subst d1;go_enter func10,ntmps10;go_wp2;go_ret;exact⟨_,rfl,by rw[fW,f];rfl,by rw[<- bS,fW,f];simp,rfl⟩
    ·have q:((((⟨#[91,b,d]⟩:ByteArray)[2]'(by show 2<3;omega)).toNat:Int)==93)=false:=i d 93 (by decide) d1;go_enter func10,ntmps10;go_wp2;go_ret;exact⟨_,rfl,by rw[f];simp[bA,d1,aP],by decide,rfl⟩
   ·have q:((((⟨#[a,b,d]⟩:ByteArray)[0]'(by show 0<3;omega)).toNat:Int)==91)=false:=i a 91 (by decide) a1;go_enter func10,ntmps10;go_wp2;go_ret;exact⟨_,rfl,by rw[f];simp[bA,a1,aP],by decide,rfl⟩
  ·have j:((c.toNat:Int)==118)=false:=i c 118 (by decide) c1;have v:((c.toNat:Int) != 118)=true:=by rw[bne,j];rfl
   by_cases a1:a=37
   ·subst a1;go_enter func10,ntmps10;go_wp2;go_ret;exact⟨_,rfl,by rw[fW,f];simp[bA,c1],by rw[<- bS,fW,f];simp,rfl⟩
   ·have q:((((⟨#[a,b,d]⟩:ByteArray)[0]'(by show 0<3;omega)).toNat:Int)==37)=false:=i a 37 (by decide) a1;go_enter func10,ntmps10;go_wp2
    all_goals go_ret
    all_goals exact⟨_,rfl,by rw[f];simp[bA,c1,a1,aP],by decide,rfl⟩
 ·by_cases h1:t.size=1
  ·obtain⟨a,rfl⟩:=ba1 t h1;clear h1 h3;have f:(⟨#[a]⟩:ByteArray).toList=[a]:=aP #[a];by_cases c1:c=97
   ·subst c1;go_enter func10,ntmps10;go_wp2;go_ret;exact⟨_,rfl,by rw[f];rfl,by rw[<- bS,f];simp,rfl⟩
   ·have j:((c.toNat:Int)==97)=false:=i c 97 (by decide) c1;go_enter func10,ntmps10;go_wp2
    all_goals go_ret
    all_goals exact⟨_,rfl,by rw[f];simp[bA,c1,aP],by decide,rfl⟩
  ·have s:((t.size:Int)==3)=false:=by rw[beq_eq_false_iff_ne];omega
   have o:((t.size:Int)==1)=false:=by rw[beq_eq_false_iff_ne];omega
   have k:=zAa (zGm c t.toList (by rw[bS];exact h3) (by rw[bS];exact h1));go_enter func10,ntmps10;go_wp2
   all_goals go_ret
   all_goals exact⟨_,rfl,by rw[k.out];exact aP #[63],by decide,rfl⟩
theorem zFy (t:ByteArray) (c:UInt8) (w:World) :
  Calls prog 10 #[.string t,.int .u8 (c.toNat:Int)] w fun e d=>e=.returned (.string (iU (bA c t.toList)))/\d=w:=by
 refine (zJR t c w).mono ?_;rintro e d ⟨r,rfl,f,_,rfl⟩;exact⟨by rw[<- f,sK],rfl⟩
theorem zKT (d e c:List UInt8) (r:List (List UInt8)) (h:(e==[61])=false):gC (d::e::c::r)=(Stm.zero,false):=by simp[gC,h]
end Go.Proofs.YtonodfjdiepglaaGreatDoor
