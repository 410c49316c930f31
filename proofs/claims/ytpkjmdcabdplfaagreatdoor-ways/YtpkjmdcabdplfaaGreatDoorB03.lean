import Derived.Deep.MidRow
import Derived.Lib.ItoaNum
import Derived.Lib.ItoaWalk
import Derived.Laws.IdiomStrings
import Derived.Test.YtpkjmdcabdplfaaGreatDoorB02
set_option linter.unusedVariables false
set_option linter.unusedSimpArgs false
namespace Go.Proofs.YtpkjmdcabdplfaaGreatDoor
open Go Go.RowKit
set_option maxRecDepth 100000
def setRange (cur:Array Value) (o:Nat):List Value→Array Value
 | []=>cur
 | v::r=>setRange (cur.setIfInBounds o v) (o+1) r
theorem setCells_block {g:Nat} {e:TypeId} {fr:Nat × Nat}:∀ (vs:List Value) (o:Nat) (w:World) (cur:Array Value),w.heap[g]?=some (.cells cur e fr)→(w.setCells g o vs).heap[g]?=some (.cells (setRange cur o vs) e fr)
 | [],_,_,_,h=>h
 | v::r,o,w,cur,h=>by
  rw[World.setCells]
  exact setCells_block r (o+1) _ _ (setCell_block h o v)
theorem setCells_grown {g:Nat}:∀ (vs:List Value) (o:Nat) (w:World),w.grownBy (w.setCells g o vs) (some g)
 | [],_,w=>grown_refl w _
 | v::r,o,w=>by
  rw[World.setCells]
  exact grown_trans (grown_setCell (grown_refl _ _) _ _) (setCells_grown r (o+1) _)
theorem setRange_get (vs:List Value):∀ (o:Nat) (cur:Array Value) (j:Nat),o+vs.length≤cur.size→(setRange cur o vs)[j]?=if o≤j∧j<o+vs.length then vs[j-o]? else cur[j]?:=by
 induction vs with
 | nil=>intro o cur j _;simp[setRange];omega
 | cons v r ih =>
  intro o cur j h
  simp at h
  rw[setRange,ih _ _ _ (by simp;omega)]
  by_cases h1:o=j
  ·subst h1
   rw[if_neg (by omega),if_pos (by simp)]
   simp[Array.getElem?_setIfInBounds];omega
  ·by_cases h2:o+1≤j∧j<o+1+r.length
   ·rw[if_pos h2,if_pos (by simp;omega)]
    rw[show j-o=(j-(o+1))+1 by omega];simp
   ·rw[if_neg h2,if_neg (by simp;omega)]
    simp[h1]
theorem setRange_all (cur new:Array Value) (h:cur.size=new.size):setRange cur 0 new.toList=new:=by
 apply Array.ext_getElem?
 intro j
 rw[setRange_get _ _ _ _ (by simp;omega)]
 by_cases h1:j<new.size
 ·rw[if_pos (by simp;omega)];simp
 ·rw[if_neg (by simp;omega),Array.getElem?_eq_none (by omega),Array.getElem?_eq_none (by omega)]
theorem range_of_block {w:World} {g:Nat} {cs:Array Value} {e:TypeId} (hg:w.heap[g]?=some (.cells cs e (0,0))):w.rangeAt g 0 cs.toList:=by
 intro j v hv
 simp[World.cell?,hg]
 simpa using hv
theorem there_of_block {w:World} {g:Nat} {cs:Array Value} {e:TypeId} (hg:w.heap[g]?=some (.cells cs e (0,0))) (n:Nat) (hn:n≤cs.size):w.there g 0 n:=by
 intro j hj
 simp[World.cell?,World.frozen?,hg]
 omega
variable {Pg:Program}
theorem run_loadVar_row (w:World) (g:Nat) (ty:TypeId) (cs:Array Value) (e:TypeId) (hg:w.heap[g]?=some (.cells cs e (0,0))) (d:TypeDesc) (hu:Pg.underlying ty=some d) (hd:d.isRow=true) (hi:(Pg.info? ty).map (·.size)=some cs.size) :
  (loadVar ty ⟨g,0,none⟩).run Pg w=.ok (.agg cs) w:=by
 have:=run_loadVar_mid (P:=Pg) w g 0 ty cs.toList d (range_of_block hg) hu hd (by simpa using hi)
 simpa using this
theorem wpList_load_row {ops:Array Oper} {rest:List Oper} {op:Oper} {a:Act} {w:World} {Q:Exit→Act→World→Prop} (hgd:op.guard=none) (ty:TypeId) (x:Operand) (ho:op.op=.load ty x)
  (g:Nat) (hx:a.eval x=.pointer (some ⟨g,0,none⟩)) (cs:Array Value) (e:TypeId) (hg:w.heap[g]?=some (.cells cs e (0,0))) (d:TypeDesc)
  (hu:Pg.underlying ty=some d) (hd:d.isRow=true) (hi:(Pg.info? ty).map (·.size)=some cs.size)
  (h:wpList Pg ops Q rest (a.put op.dst (.agg cs)) w):wpList Pg ops Q (op::rest) a w :=
 wpList_load_mid hgd ty x ho g 0 hx cs.toList d (range_of_block hg) hu hd (by simpa using hi) (by simpa using h)
theorem wpList_store_row {ops:Array Oper} {rest:List Oper} {op:Oper} {a:Act} {w:World} {Q:Exit→Act→World→Prop} (hgd:op.guard=none) (ty:TypeId) (x y:Operand) (ho:op.op=.store ty x y)
  (g:Nat) (cells cs:Array Value) (e:TypeId) (hx:a.eval x=.pointer (some ⟨g,0,none⟩)) (hy:a.eval y=.agg cells) (hg:w.heap[g]?=some (.cells cs e (0,0))) (hsz:cs.size=cells.size)
  (hi:(Pg.info? ty).map (·.size)=some cells.size) (h1:cells.all (·.oneCell')=true)
  (h:∀ w',w'.heap[g]?=some (.cells cells e (0,0))→w.grownBy w' (some g)→wpList Pg ops Q rest (a.put op.dst undef) w'):wpList Pg ops Q (op::rest) a w:=by
 refine wpList_store_mid hgd ty x y ho g 0 cells hx hy (there_of_block hg _ (by omega)) hi h1 ?_
 have hb:=setCells_block cells.toList 0 w cs hg
 rw[setRange_all cs cells hsz] at hb
 exact h _ hb (setCells_grown _ _ _)
theorem wpList_load_stm {ops:Array Oper} {rest:List Oper} {op:Oper} {a:Act} {w:World} {Q:Exit→Act→World→Prop} (x:Operand) (hgd:op.guard=none) (ho:op.op=.load 80 x)
  (g:Nat) (st:P.Stm) (hx:a.eval x=.pointer (some ⟨g,0,none⟩)) (hg:StmAt w g st)
  (h:wpList Tryz.prog ops Q rest (a.put op.dst (.agg (stmCells st))) w):wpList Tryz.prog ops Q (op::rest) a w :=
 wpList_load_row hgd _ x ho g hx _ _ hg _ Tryz.underlying80 rfl (by kernel_rfl) h
theorem wpList_store_stm {ops:Array Oper} {rest:List Oper} {op:Oper} {a:Act} {w:World} {Q:Exit→Act→World→Prop} (x y:Operand) (hgd:op.guard=none) (ho:op.op=.store 80 x y)
  (g:Nat) (st t:P.Stm) (hx:a.eval x=.pointer (some ⟨g,0,none⟩)) (hy:a.eval y=.agg (stmCells t)) (hg:StmAt w g st)
  (h:∀ w',StmAt w' g t→w.grownBy w' (some g)→wpList Tryz.prog ops Q rest (a.put op.dst undef) w'):wpList Tryz.prog ops Q (op::rest) a w :=
 wpList_store_row hgd _ x y ho g (stmCells t) (stmCells st) _ hx hy hg rfl (by kernel_rfl) (by simp[stmCells,Value.oneCell']) h
theorem stm_load {w:World} {g:Nat} {st:P.Stm} (h:StmAt w g st):(loadVar 80 ⟨g,0,none⟩).run Tryz.prog w=.ok (.agg (stmCells st)) w :=
 run_loadVar_row w g _ _ _ h _ Tryz.underlying80 rfl (by kernel_rfl)
def stmVal (r:P.Stm × Bool):Value:=.tuple #[.agg (stmCells r.1),.bool r.2]
theorem ret_stm {fn:Func} {R:Ending→World→Prop} {a:Act} {w:World} {p u:Tmp} (g:Nat) (st:P.Stm) (ok:Bool) (hres:fn.results=#[.cell p 80,.tmp u])
  (hp:a.tmps.getD p undef=.pointer (some ⟨g,0,none⟩)) (hu:a.tmps.getD u undef=.bool ok) (h:StmAt w g st) (hd:a.defers=[]) (hR:R (.returned (stmVal (st,ok))) w):bodyPost Tryz.prog fn R .ret a w:=by
 refine bodyPost_ret (v:=stmVal (st,ok)) ?_ hd hR
 rw[results_cell_tmp hres,hp,hu]
 have:(asAddr (.pointer (some ⟨g,0,none⟩))).run Tryz.prog w=.ok ⟨g,0,none⟩ w:=rfl
 rw[this,Result.andThen_ok,stm_load h,Result.andThen_ok]
 rfl
namespace R
def sBarrier:ByteArray:=⟨#[98,97,114,114,105,101,114]⟩
def sFence:ByteArray:=⟨#[102,101,110,99,101]⟩
def sStore:ByteArray:=⟨#[115,116,111,114,101]⟩
def sLoad:ByteArray:=⟨#[108,111,97,100]⟩
def sSet:ByteArray:=⟨#[115,101,116]⟩
def oFence:List UInt8:=[97,99,113,114,101,108,32,115,99]
def oStore:List UInt8:=[119,101,97,107,32,114,101,108,97,120,101,100,32,114,101,108,101,97,115,101]
def oLoad:List UInt8:=[119,101,97,107,32,114,101,108,97,120,101,100,32,97,99,113,117,105,114,101]
def oStep:List UInt8:=[114,101,108,97,120,101,100,32,97,99,113,117,105,114,101,32,114,101,108,101,97,115,101,32,97,99,113,114,101,108]
def x0:Lh:=⟨⟨#[]⟩, -1, -1,0,0,⟨#[]⟩,⟨#[]⟩,⟨#[]⟩⟩
def z0:Lh:=⟨⟨#[]⟩,0,0,0,0,⟨#[]⟩,⟨#[]⟩,⟨#[]⟩⟩
def stStore (p v:ByteArray) (r:List ByteArray):Lh × Bool :=
 let h:=how { x0 with op:=sStore,var:=inn p.toList vars,a:=(opd v.toList).1 } oStore r
 (h.1,(opd v.toList).2&&h.2&&decide (0≤inn p.toList vars))
def stLoad (d p:ByteArray) (r:List ByteArray):Lh × Bool :=
 let h:=how { x0 with reg:=inn d.toList regs,op:=sLoad,var:=inn p.toList vars } oLoad r
 (h.1,decide (0≤inn d.toList regs)&&h.2&&decide (0≤inn p.toList vars))
def stStep (d c p v:ByteArray) (r:List ByteArray):Lh × Bool :=
 let h:=how { x0 with reg:=inn d.toList regs,op:=c,var:=inn p.toList vars,a:=(opd v.toList).1 } oStep r
 (h.1,decide (0≤inn d.toList regs)&&h.2&&(opd v.toList).2&&decide (0≤inn p.toList vars))
def stOne (d a:ByteArray):Lh × Bool :=
 ({ x0 with reg:=inn d.toList regs,op:=sSet,a:=(opd a.toList).1 },decide (0≤inn d.toList regs)&&(opd a.toList).2)
def stTwo (d a s b:ByteArray):Lh × Bool :=
 ({ x0 with reg:=inn d.toList regs,op:=sSet,a:=(opd a.toList).1,sign:=s,b:=(opd b.toList).1 },decide (0≤inn d.toList regs)&&(opd a.toList).2&&(opd b.toList).2&&decide (0≤inn s.toList signs))
def stElse (d a:ByteArray):Lh × Bool:=({ x0 with reg:=inn d.toList regs,op:=sSet,a:=(opd a.toList).1 },false)
def assign (d c:ByteArray) (r:List ByteArray):Lh × Bool :=
 if c.toList==[108,111,97,100]&&decide (2≤r.length) then
  match r with
  | p::q=>stLoad d p q
  | []=>(x0,false)
 else if (c.toList==[97,100,100]||c.toList==[115,119,97,112])&&decide (3≤r.length) then
  match r with
  | p::v::q=>stStep d c p v q
  | _=>(x0,false)
 else match r with
  | []=>stOne d c
  | [s,b]=>stTwo d c s b
  | _=>stElse d c
def stmt (c:ByteArray) (r:List ByteArray):Lh × Bool :=
 if c.toList==[98,97,114,114,105,101,114] then ({ x0 with op:=sBarrier },r.isEmpty)
 else if c.toList==[102,101,110,99,101] then how { x0 with op:=sFence } oFence r
 else if c.toList==[115,116,111,114,101]&&decide (3≤r.length) then
  match r with
  | p::v::q=>stStore p v q
  | _=>(x0,false)
 else match r with
  | e::d::q=>if e.toList==[61] then assign c d q else (x0,false)
  | _=>(x0,false)
end R
theorem wpList_load_ln {ops:Array Oper} {rest:List Oper} {op:Oper} {a:Act} {w:World} {Q:Exit→Act→World→Prop} (x:Operand) (hgd:op.guard=none) (ho:op.op=.load 49 x)
  (g:Nat) (y:R.Lh) (bv:Value) (hx:a.eval x=.pointer (some ⟨g,0,none⟩)) (hg:LnAt w g y bv)
  (h:wpList Tryz.prog ops Q rest (a.put op.dst (.agg (lnCells y bv))) w):wpList Tryz.prog ops Q (op::rest) a w :=
 wpList_load_row hgd _ x ho g hx _ _ hg _ Tryz.underlying49 rfl (by kernel_rfl) h
theorem wpList_store_ln {ops:Array Oper} {rest:List Oper} {op:Oper} {a:Act} {w:World} {Q:Exit→Act→World→Prop} (x y:Operand) (hgd:op.guard=none) (ho:op.op=.store 49 x y)
  (g:Nat) (z t:R.Lh) (bz bt:Value) (hbt:bt.oneCell'=true) (hx:a.eval x=.pointer (some ⟨g,0,none⟩)) (hy:a.eval y=.agg (lnCells t bt)) (hg:LnAt w g z bz)
  (h:∀ w',LnAt w' g t bt→w.grownBy w' (some g)→wpList Tryz.prog ops Q rest (a.put op.dst undef) w'):wpList Tryz.prog ops Q (op::rest) a w :=
 wpList_store_row hgd _ x y ho g (lnCells t bt) (lnCells z bz) _ hx hy hg rfl (by kernel_rfl) (by simp[lnCells,hbt];simp[Value.oneCell']) h
def lnVal (r:R.Lh × Bool):Value:=.tuple #[.agg (lnCells r.1 (.slice none 0 0)),.bool r.2]
theorem ret_ln {fn:Func} {Q:Ending→World→Prop} {a:Act} {w:World} {p u:Tmp} (g:Nat) (x:R.Lh) (ok:Bool) (hres:fn.results=#[.cell p 49,.tmp u])
  (hp:a.tmps.getD p undef=.pointer (some ⟨g,0,none⟩)) (hu:a.tmps.getD u undef=.bool ok) (h:LnAt w g x (.slice none 0 0)) (hd:a.defers=[]) (hR:Q (.returned (lnVal (x,ok))) w):bodyPost Tryz.prog fn Q .ret a w:=by
 refine bodyPost_ret (v:=lnVal (x,ok)) ?_ hd hR
 rw[results_cell_tmp hres,hp,hu]
 have:(asAddr (.pointer (some ⟨g,0,none⟩))).run Tryz.prog w=.ok ⟨g,0,none⟩ w:=rfl
 rw[this,Result.andThen_ok,run_loadVar_row w g _ _ _ h _ Tryz.underlying49 rfl (by kernel_rfl),Result.andThen_ok]
 rfl
structure StAt (w0 w1:World) (b off:Nat) (ws:List ByteArray) (x:R.Lh):Prop where
 xat:LnAt w1 (w0.heap.size+1) x (.slice none 0 0)
 res:LnAt w1 w0.heap.size R.z0 (.slice none 0 0)
 words:WordsAt w1 b off ws
 bel:Below w0.heap.size w0 w1
theorem StAt.start (w:World) (b off:Nat) (ws:List ByteArray) (x:R.Lh) (hw:WordsAt w b off ws):StAt w ((w.alloc (.cells (lnCells R.z0 (.slice none 0 0)) 49)).alloc (.cells (lnCells x (.slice none 0 0)) 49)) b off ws x:=by
 refine⟨?_,(LnAt.new w R.z0 _).alloc _,(hw.alloc _).alloc _,((Below.refl _ _).alloc (Nat.le_refl _) _).alloc (by simp) _⟩
 have:=LnAt.new (w.alloc (.cells (lnCells R.z0 (.slice none 0 0)) 49)) x (.slice none 0 0)
 simpa using this
theorem StAt.below {w0 w1 w2:World} {b off:Nat} {ws:List ByteArray} {x:R.Lh} (h:StAt w0 w1 b off ws x) (hb:Below w1.heap.size w1 w2):StAt w0 w2 b off ws x :=
 ⟨h.xat.below hb,h.res.below hb,h.words.below hb,h.bel.trans (hb.mono h.bel.size)⟩
theorem StAt.set {w0 w1:World} {b off:Nat} {ws:List ByteArray} {x:R.Lh} (y:R.Lh) (h:StAt w0 w1 b off ws x) (hb:b<w0.heap.size) (i:Nat) (u:Value) (e:(lnCells x (.slice none 0 0)).setIfInBounds i u=lnCells y (.slice none 0 0)):StAt w0 (w1.setCell ⟨w0.heap.size+1,i,none⟩ u) b off ws y :=
 ⟨h.xat.set y i u e,h.res.of_block (Below.heap_setCell _ _ _ _ (by simp)),h.words.set (by omega) _ _,h.bel.setCell (by simp) _⟩
theorem StAt.how {w0 w1 w2:World} {b off:Nat} {ws:List ByteArray} {x y:R.Lh} (h:StAt w0 w1 b off ws x) (hb:b<w0.heap.size) (hy:LnAt w2 (w0.heap.size+1) y (.slice none 0 0)) (hg:w1.grownBy w2 (some (w0.heap.size+1))):StAt w0 w2 b off ws y :=
 ⟨hy,h.res.of_block (hg.block _ h.res.lt (by simp)),h.words.grown hg (by omega),below_of_new h.bel hg (by omega)⟩
theorem StAt.done {w0 w1 w2:World} {b off:Nat} {ws:List ByteArray} {x:R.Lh} (h:StAt w0 w1 b off ws x) (hg:w1.grownBy w2 (some w0.heap.size)):Below w0.heap.size w0 w2:=below_of_new h.bel hg (Nat.le_refl _)
theorem WordsAt.drop {w:World} {b off:Nat} {ws:List ByteArray} (h:WordsAt w b off ws) (k:Nat):WordsAt w b (off+k) (ws.drop k):=by
 intro i s hs
 have:=h (k+i) s (by simpa using hs)
 rw[show off+k+i=off+(k+i) by omega];exact this
end Go.Proofs.YtpkjmdcabdplfaaGreatDoor
namespace Go.Proofs.YtpkjmdcabdplfaaGreatDoor
namespace P
open Go
def dec (n:Int):List UInt8:=Lib.decDigits n.toNat
def regT (n:Int):List UInt8:=[37,114]++dec n
def varT (v:Int):List UInt8:=if v==0 then [120] else if v==1 then [121] else [122]
def opdT (o:Opd):List UInt8:=if o.reg then regT o.n else dec o.n
def ordT (o:Int):List UInt8 :=
 if o==1 then [114,101,108,97,120,101,100] else if o==2 then [97,99,113,117,105,114,101] else if o==3 then [114,101,108,101,97,115,101]
 else if o==4 then [97,99,113,95,114,101,108] else [115,99]
def sufT (st:Stm):List UInt8 :=
 if st.order==0 then [46,119,101,97,107] else [46]++ordT st.order++(if st.scope==0 then [46,99,116,97] else [46,103,112,117])
def celT (v:Int):List UInt8:=[91]++varT v++[93]
def labT (n:Int):List UInt8:=[76]++dec n
def instr (st:Stm):List UInt8 :=
 if st.kind==0 then [108,100]++sufT st++[32]++regT st.dest++[44,32]++celT st.var
 else if st.kind==1 then [115,116]++sufT st++[32]++celT st.var++[44,32]++opdT st.a
 else if st.kind==2 then [97,116,111,109,46,97,100,100]++sufT st++[32]++regT st.dest++[44,32]++celT st.var++[44,32]++opdT st.a
 else if st.kind==3 then [97,116,111,109,46,101,120,99,104]++sufT st++[32]++regT st.dest++[44,32]++celT st.var++[44,32]++opdT st.a
 else if st.kind==4 then [102,101,110,99,101]++sufT st
 else if st.kind==5 then [98,97,114,46,115,121,110,99]
 else if st.kind==6 then [109,111,118,32]++regT st.dest++[44,32]++opdT st.a
 else if st.kind==7 then [97,100,100,32]++regT st.dest++[44,32]++opdT st.a++[44,32]++opdT st.b
 else if st.kind==8 then [115,117,98,32]++regT st.dest++[44,32]++opdT st.a++[44,32]++opdT st.b
 else if st.kind==9 then [115,101,116,101,113,32]++regT st.dest++[44,32]++opdT st.a++[44,32]++opdT st.b
 else if st.kind==11 then labT st.label++[58]
 else [98,122,32]++opdT st.a++[44,32]++labT st.label
def writeS:List Stm→List UInt8
 | []=>[]
 | s::r=>instr s++[10]++writeS r
def writeT (t:Thr):List UInt8:=[46,116,104,114,101,97,100,32]++dec t.block++[10]++writeS t.stmts
def write:List Thr→List UInt8
 | []=>[]
 | t::r=>writeT t++write r
structure Small (st:Stm):Prop where
 d0:0≤st.dest
 d1:st.dest<100
 a0:0≤st.a.n
 a1:st.a.n<100
 b0:0≤st.b.n
 b1:st.b.n<100
 l0:0≤st.label
 l1:st.label<100
theorem dec_len (n:Int) (h:n<100):(dec n).length≤2:=by
 have:∀ i:Fin 100,(Lib.decDigits i.1).length≤2:=by decide +kernel
 unfold dec
 by_cases h0:0≤n
 ·exact this ⟨n.toNat,by omega⟩
 ·rw[show n.toNat=0 by omega];exact this ⟨0,by omega⟩
end P
namespace P
structure Nums (st:Stm):Prop where
 d0:0≤st.dest
 d1:st.dest<4
 a0:0≤st.a.n
 a1:st.a.n<4
 b0:0≤st.b.n
 b1:st.b.n<4
 l0:st.label=0
theorem nums_zero:Nums Stm.zero:=⟨by decide,by decide,by decide,by decide,by decide,by decide,rfl⟩
theorem digit_ok (c:UInt8) (n:Int) (h:(digit c n).2=true):0≤(digit c n).1∧(digit c n).1<n:=by
 simp[digit] at h ⊢
 omega
theorem register_ok (l:List UInt8) (h:(register l).2=true):0≤(register l).1∧(register l).1<4:=by
 unfold register at h ⊢
 split at h
 ·split at h
  ·rename_i h1;simp only[if_pos h1];exact digit_ok _ _ h
  ·simp at h
 ·simp at h
theorem operand_ok (l:List UInt8) (h:(operand l).2=true):0≤(operand l).1.n∧(operand l).1.n<4:=by
 unfold operand at h ⊢
 split at h
 ·exact digit_ok _ _ h
 ·exact register_ok _ h
theorem nums_ordering {st:Stm} (hs:Nums st) (ws:List (List UInt8)):Nums (ordering st ws).1:=by
 have h1:∀ o,Nums { st with order:=o }:=fun o=>⟨hs.d0,hs.d1,hs.a0,hs.a1,hs.b0,hs.b1,hs.l0⟩
 have h2:∀ o s,Nums { st with order:=o,scope:=s }:=fun o s=>⟨hs.d0,hs.d1,hs.a0,hs.a1,hs.b0,hs.b1,hs.l0⟩
 unfold ordering
 split
 ·exact hs
 ·split
  ·split
   ·exact h1 _
   ·split
    ·exact h2 _ _
    ·exact h1 _
  ·exact hs
theorem nums_target {st:Stm} (hs:Nums st) (p v:List UInt8) (h:(target st p v).2=true):Nums (target st p v).1:=by
 unfold target at h ⊢
 split at h
 ·rename_i h1
  simp only[h1,if_true]
  have:=operand_ok v h
  exact⟨hs.d0,hs.d1,this.1,this.2,hs.b0,hs.b1,hs.l0⟩
 ·simp at h
theorem nums_kind {st:Stm} (hs:Nums st) (k:Int):Nums { st with kind:=k }:=⟨hs.d0,hs.d1,hs.a0,hs.a1,hs.b0,hs.b1,hs.l0⟩
theorem nums_load {st:Stm} (hs:Nums st) (ws:List (List UInt8)):Nums (load st ws).1:=by
 unfold load
 split
 ·exact hs
 ·split
  ·refine nums_ordering (st:={ st with kind:=0,var:=_ }) ?_ _
   exact⟨hs.d0,hs.d1,hs.a0,hs.a1,hs.b0,hs.b1,hs.l0⟩
  ·exact hs
theorem nums_step {st:Stm} (hs:Nums st) (k:Int) (ws:List (List UInt8)) (h:(step st k ws).2=true):Nums (step st k ws).1:=by
 match ws,h with
 | [],h=>simp[step] at h
 | [_],h=>simp[step] at h
 | p::v::r,h =>
  cases ht:(target { st with kind:=k } p v).2
  ·rw[step_no st k p v r ht] at h;simp at h
  ·rw[step_yes st k p v r ht]
   exact nums_ordering (nums_target (nums_kind hs k) p v ht) r
theorem nums_sum {st:Stm} (hs:Nums st) (ws:List (List UInt8)) (h:(sum st ws).2=true):Nums (sum st ws).1:=by
 match ws,h with
 | [],h=>simp[sum] at h
 | [a],h =>
  cases ha:(operand a).2
  ·simp[sum,ha] at h
  ·rw[sum_one st a ha]
   have:=operand_ok a ha
   exact⟨hs.d0,hs.d1,this.1,this.2,hs.b0,hs.b1,hs.l0⟩
 | [_,_],h=>simp[sum] at h
 | [a,s,b],h =>
  cases ha:(operand a).2
  ·simp[sum,ha] at h
  ·cases hg:(sign s).2
   ·simp[sum,ha,hg] at h
   ·rw[sum_all st a s b ha hg] at h ⊢
    have h1:=operand_ok a ha
    have h2:=operand_ok b h
    exact⟨hs.d0,hs.d1,h1.1,h1.2,h2.1,h2.2,hs.l0⟩
 | _::_::_::_::_,h=>simp[sum] at h
theorem nums_assignment (ws:List (List UInt8)) (h:(assignment ws).2=true):Nums (assignment ws).1:=by
 match ws,h with
 | [],h=>simp[assignment] at h
 | [_],h=>simp[assignment] at h
 | [_,_],h=>simp[assignment] at h
 | d::e::c::r,h =>
  unfold assignment at h ⊢
  simp only at h ⊢
  by_cases he:(e==[61])=true
  ·by_cases hr:(register d).2=true
   ·rw[if_pos he,if_pos hr] at h ⊢
    have hd:=register_ok d hr
    have hz:Nums { Stm.zero with dest:=(register d).1 }:=⟨hd.1,hd.2,nums_zero.a0,nums_zero.a1,nums_zero.b0,nums_zero.b1,rfl⟩
    split at h
    ·rename_i h1;rw[if_pos h1];exact nums_load hz r
    ·rename_i h1
     rw[if_neg h1]
     split at h
     ·rename_i h2;rw[if_pos h2];exact nums_step hz 2 r h
     ·rename_i h2
      rw[if_neg h2]
      split at h
      ·rename_i h3;rw[if_pos h3];exact nums_step hz 3 r h
      ·rename_i h3;rw[if_neg h3];exact nums_sum hz (c::r) h
   ·rw[if_pos he,if_neg hr] at h;simp at h
  ·rw[if_neg he] at h;simp at h
theorem nums_statement (ws:List (List UInt8)) (h:(statement ws).2=true):Nums (statement ws).1:=by
 match ws,h with
 | [],h=>simp[statement] at h
 | c::r,h =>
  unfold statement at h ⊢
  simp only at h ⊢
  split at h
  ·rename_i h1
   rw[if_pos h1]
   match r,h with
   | [],h=>simp[store] at h
   | [_],h=>simp[store] at h
   | p::v::q,h =>
    unfold store at h ⊢
    simp only at h ⊢
    cases ht:(target { Stm.zero with kind:=1 } p v).2
    ·simp[ht] at h
    ·simp only[if_true]
     exact nums_ordering (nums_target (nums_kind nums_zero 1) p v ht) q
  ·rename_i h1
   rw[if_neg h1]
   split at h
   ·rename_i h2
    rw[if_pos h2]
    exact nums_ordering (nums_kind nums_zero 4) r
   ·rename_i h2
    rw[if_neg h2]
    split at h
    ·rename_i h3;rw[if_pos h3];exact nums_kind nums_zero 5
    ·rename_i h3
     rw[if_neg h3]
     split at h
     ·rename_i h4
      rw[if_pos h4]
      match r,h with
      | [],h=>simp[condition] at h
      | [a],h =>
       have:=operand_ok a h
       exact⟨nums_zero.d0,nums_zero.d1,this.1,this.2,nums_zero.b0,nums_zero.b1,rfl⟩
      | _::_::_,h=>simp[condition] at h
     ·rename_i h4
      rw[if_neg h4]
      split at h
      ·rename_i h5;rw[if_pos h5];exact nums_kind nums_zero 11
      ·rename_i h5;rw[if_neg h5];exact nums_assignment (c::r) h
end P
end Go.Proofs.YtpkjmdcabdplfaaGreatDoor
namespace Go.Proofs.YtpkjmdcabdplfaaGreatDoor
open Go
theorem inn_lit (v l:List UInt8) (ws:List (List UInt8)) (h:P.splitAt 32 l=ws):R.inn v l=R.idxFrom v 0 ws:=by unfold R.inn;rw[h]
theorem inn_vars (v:List UInt8):R.inn v R.vars=if v=[120] then 0 else if v=[121] then 1 else if v=[122] then 2 else -1:=by
 rw[inn_lit v R.vars [[120],[121],[122]] (by decide)]
 by_cases h1:v=[120]
 ·subst h1;decide
 by_cases h2:v=[121]
 ·subst h2;decide
 by_cases h3:v=[122]
 ·subst h3;decide
 simp[R.idxFrom,Ne.symm h1,Ne.symm h2,Ne.symm h3,h1,h2,h3]
theorem var_eq (v:List UInt8):(P.varOf v).2=decide (0≤R.inn v R.vars)∧((P.varOf v).2=true→(P.varOf v).1=R.inn v R.vars):=by
 rw[inn_vars]
 unfold P.varOf
 by_cases h1:v=[120]
 ·subst h1;decide
 by_cases h2:v=[121]
 ·subst h2;decide
 by_cases h3:v=[122]
 ·subst h3;decide
 simp[h1,h2,h3]
theorem inn_regs (v:List UInt8):R.inn v R.regs=if v=[114,48] then 0 else if v=[114,49] then 1 else if v=[114,50] then 2 else if v=[114,51] then 3 else -1:=by
 rw[inn_lit v R.regs [[114,48],[114,49],[114,50],[114,51]] (by decide)]
 by_cases h1:v=[114,48]
 ·subst h1;decide
 by_cases h2:v=[114,49]
 ·subst h2;decide
 by_cases h3:v=[114,50]
 ·subst h3;decide
 by_cases h4:v=[114,51]
 ·subst h4;decide
 simp[R.idxFrom,Ne.symm h1,Ne.symm h2,Ne.symm h3,Ne.symm h4,h1,h2,h3,h4]
theorem inn_nums (v:List UInt8):R.inn v R.nums=if v=[48] then 0 else if v=[49] then 1 else if v=[50] then 2 else if v=[51] then 3 else -1:=by
 rw[inn_lit v R.nums [[48],[49],[50],[51]] (by decide)]
 by_cases h1:v=[48]
 ·subst h1;decide
 by_cases h2:v=[49]
 ·subst h2;decide
 by_cases h3:v=[50]
 ·subst h3;decide
 by_cases h4:v=[51]
 ·subst h4;decide
 simp[R.idxFrom,Ne.symm h1,Ne.symm h2,Ne.symm h3,Ne.symm h4,h1,h2,h3,h4]
theorem digit4 (c:UInt8):(P.digit c 4).2=true ↔ (c=48∨c=49∨c=50∨c=51):=by
 have:∀ c:Fin 256,(P.digit (UInt8.ofNat c.1) 4).2=true ↔ (UInt8.ofNat c.1=48∨UInt8.ofNat c.1=49∨UInt8.ofNat c.1=50∨UInt8.ofNat c.1=51):=by decide +kernel
 have h:=this ⟨c.toNat,UInt8.toNat_lt c⟩
 simpa using h
theorem reg_eq (v:List UInt8):(P.register v).2=decide (0≤R.inn v R.regs)∧((P.register v).2=true→(P.register v).1=R.inn v R.regs):=by
 rw[inn_regs]
 by_cases h1:v=[114,48]
 ·subst h1;decide
 by_cases h2:v=[114,49]
 ·subst h2;decide
 by_cases h3:v=[114,50]
 ·subst h3;decide
 by_cases h4:v=[114,51]
 ·subst h4;decide
 have hf:(P.register v).2=false:=by
  cases hr:(P.register v).2
  ·rfl
  ·exfalso
   unfold P.register at hr
   split at hr
   ·rename_i c d
    split at hr
    ·rename_i hc
     subst hc
     rcases (digit4 d).1 hr with rfl | rfl | rfl | rfl
     ·exact h1 rfl
     ·exact h2 rfl
     ·exact h3 rfl
     ·exact h4 rfl
    ·simp at hr
   ·simp at hr
 rw[hf]
 simp[h1,h2,h3,h4]
def encO (o:P.Opd):Int:=if o.reg then -1-o.n else o.n
theorem opd_eq (v:List UInt8):(P.operand v).2=(R.opd v).2∧((P.operand v).2=true→encO (P.operand v).1=(R.opd v).1):=by
 by_cases h1:v=[114,48]
 ·subst h1;decide
 by_cases h2:v=[114,49]
 ·subst h2;decide
 by_cases h3:v=[114,50]
 ·subst h3;decide
 by_cases h4:v=[114,51]
 ·subst h4;decide
 by_cases k1:v=[48]
 ·subst k1;decide
 by_cases k2:v=[49]
 ·subst k2;decide
 by_cases k3:v=[50]
 ·subst k3;decide
 by_cases k4:v=[51]
 ·subst k4;decide
 have hf:(P.operand v).2=false:=by
  cases hr:(P.operand v).2
  ·rfl
  ·exfalso
   unfold P.operand at hr
   split at hr
   ·rename_i c
    rcases (digit4 c).1 hr with rfl | rfl | rfl | rfl
    ·exact k1 rfl
    ·exact k2 rfl
    ·exact k3 rfl
    ·exact k4 rfl
   ·have:=(reg_eq v).1
    simp only at hr
    rw[this,inn_regs] at hr
    simp[h1,h2,h3,h4] at hr
 rw[hf]
 unfold R.opd
 rw[inn_regs,inn_nums]
 simp[h1,h2,h3,h4,k1,k2,k3,k4]
end Go.Proofs.YtpkjmdcabdplfaaGreatDoor
namespace Go.Proofs.YtpkjmdcabdplfaaGreatDoor
open Go Go.RowKit
set_option maxRecDepth 100000
theorem decDigits_small (n:Nat) (h:n<10):Lib.decDigits n=[UInt8.ofNat (48+n)]:=by
 rw[Lib.decDigits];simp[h]
theorem decDigits_big (n:Nat) (h:¬ n<10):Lib.decDigits n=Lib.decDigits (n / 10)++[UInt8.ofNat (48+n % 10)]:=by
 rw[Lib.decDigits];simp[h]
theorem run_byte (w:World) (x:Int) (h0:0≤x) (h:x<256):(convert 89 9 (.slice (some ⟨w.heap.size,0,none⟩) 1 1)).run Tryz.prog (w.alloc (.cells #[.int .u8 x] 5))=.ok (.string ⟨#[UInt8.ofNat x.toNat]⟩) (w.alloc (.cells #[.int .u8 x] 5)):=by
 refine run_convert_bytes_back (P:=Tryz.prog) (w.alloc (.cells #[.int .u8 x] 5)) 89 9 5 ⟨w.heap.size,0,none⟩ 1 [UInt8.ofNat x.toNat] Tryz.underlying89 Tryz.underlying5 Tryz.underlying9 ?_
 intro j hj
 match j,hj with
 | 0,_ =>
  simp[Addr.add]
  omega
set_option maxHeartbeats 800000 in
theorem dec_one (n:Int) (w:World) (h0:0≤n) (h:n<10) :
  Calls Tryz.prog 21 #[.int .i64 n] w fun e w'=>∃ s,e=.returned (.string s)∧Txt 1 s (P.dec n)∧Below w.heap.size w w':=by
 have hr:=run_byte w (48+n % 10) (by omega) (by omega)
 go_enter Tryz.func21,Tryz.ntmps21
 go_wp2
 go_ret
 refine⟨_,rfl,⟨?_,by simp[lit_size]⟩,(Below.refl _ _).alloc (Nat.le_refl _) _⟩
 rw[lit_toList,P.dec,decDigits_small _ (by omega),show (48+n % 10).toNat=48+n.toNat by omega]
set_option maxHeartbeats 800000 in
theorem dec_two (n:Int) (w:World) (h0:10≤n) (h:n<100) :
  Calls Tryz.prog 21 #[.int .i64 n] w fun e w'=>∃ s,e=.returned (.string s)∧Txt 2 s (P.dec n)∧Below w.heap.size w w':=by
 have hr:=run_byte w (48+n % 10) (by omega) (by omega)
 have hd:P.dec n=P.dec (n / 10)++[UInt8.ofNat (48+n % 10).toNat]:=by
  unfold P.dec
  rw[decDigits_big _ (by omega)]
  rw[show n.toNat / 10=(n / 10).toNat by omega,show 48+n.toNat % 10=(48+n % 10).toNat by omega]
 have HD:=hide hd
 clear hd
 go_enter Tryz.func21,Tryz.ntmps21
 go_wp2_with (first | (go_at_call 21;refine (dec_one (n / 10) _ (by omega) (by omega)).mono ?_;rintro e w1 ⟨s,rfl,hs,hb⟩;have hz:=hs.size))
 go_ret
 refine⟨_,rfl,⟨?_,?_⟩,((Below.refl _ _).alloc (Nat.le_refl _) _).trans (hb.mono (by simp))⟩
 ·rw[app_toList,hs.1,HD.out,lit_toList]
 ·simp[lit_size];omega
theorem decR_any (n:Int) (w:World) (h0:0≤n) (h:n<100) :
  Calls Tryz.prog 21 #[.int .i64 n] w fun e w'=>∃ s,e=.returned (.string s)∧Txt 2 s (P.dec n)∧Below w.heap.size w w':=by
 by_cases h1:n<10
 ·refine (dec_one n w h0 h1).mono ?_
  rintro e w' ⟨s,rfl,hs,hb⟩
  exact⟨s,rfl,⟨hs.1,by have:=hs.2;omega⟩,hb⟩
 ·exact dec_two n w (by omega) h
namespace R
def shown (a:Int):List UInt8:=if a<0 then P.regT (-1-a) else P.dec a
end R
set_option maxHeartbeats 800000 in
theorem shown_any (a:Int) (w:World) (h0:-100≤a) (h:a<100) :
  Calls Tryz.prog 41 #[.int .i64 a] w fun e w'=>∃ s,e=.returned (.string s)∧Txt 4 s (R.shown a)∧Below w.heap.size w w':=by
 by_cases hn:a<0
 ·have HE:Hid (R.shown a=P.regT (-1-a)):=if_pos hn
  go_enter Tryz.func41,Tryz.ntmps41
  go_wp2_with (first | (go_at_call 21;refine (decR_any (-1-a) _ (by omega) (by omega)).mono ?_;rintro e w1 ⟨s,rfl,hs,hb⟩;have hz:=hs.size))
  go_ret
  refine⟨_,rfl,⟨?_,?_⟩,hb⟩
  ·rw[HE.out,app_toList,hs.1,lit_toList];rfl
  ·simp[lit_size];omega
 ·have HE:Hid (R.shown a=P.dec a):=if_neg hn
  go_enter Tryz.func41,Tryz.ntmps41
  go_wp2_with (first | (go_at_call 21;refine (decR_any a _ (by omega) (by omega)).mono ?_;rintro e w1 ⟨s,rfl,hs,hb⟩;have hz:=hs.size))
  go_ret
  exact⟨_,rfl,⟨by rw[HE.out,hs.1],by omega⟩,hb⟩
end Go.Proofs.YtpkjmdcabdplfaaGreatDoor
