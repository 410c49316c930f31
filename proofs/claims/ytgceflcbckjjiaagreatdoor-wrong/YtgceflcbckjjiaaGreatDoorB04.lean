import Derived.Deep.MidRow
import Derived.Test.YtgceflcbckjjiaaGreatDoorB02
set_option linter.unusedVariables false
set_option linter.unusedSimpArgs false
namespace Go.Proofs.YtgceflcbckjjiaaGreatDoor
open Go Go.RowKit
set_option maxRecDepth 100000
def setRange (cur:Array Value) (o:Nat):List Value→Array Value
 | []=>cur
 | v::r=>setRange (cur.setIfInBounds o v) (o+1) r
theorem setCells_block {g:Nat} {e:TypeId} {fr:Nat × Nat}:∀ (vs:List Value) (o:Nat) (w:World) (cur:Array Value),w.heap[g]?=some (.cells cur e fr)→(w.setCells g o vs).heap[g]?=some (.cells (setRange cur o vs) e fr)
 | [],_,_,_,h=>h
 | v::r,o,w,cur,h=>by
  rw[World.setCells]
  exact setCells_block r (o+1) _ _ (setCell_block h o v)
theorem setCells_grown {g:Nat}:∀ (vs:List Value) (o:Nat) (w:World),w.grownBy (w.setCells g o vs) (some g)
 | [],_,w=>grown_refl w _
 | v::r,o,w=>by
  rw[World.setCells]
  exact grown_trans (grown_setCell (grown_refl _ _) _ _) (setCells_grown r (o+1) _)
theorem setRange_get (vs:List Value):∀ (o:Nat) (cur:Array Value) (j:Nat),o+vs.length≤cur.size→(setRange cur o vs)[j]?=if o≤j∧j<o+vs.length then vs[j-o]? else cur[j]?:=by
 induction vs with
 | nil=>intro o cur j _;simp[setRange];omega
 | cons v r ih =>
  intro o cur j h
  simp at h
  rw[setRange,ih _ _ _ (by simp;omega)]
  by_cases h1:o=j
  ·subst h1
   rw[if_neg (by omega),if_pos (by simp)]
   simp[Array.getElem?_setIfInBounds];omega
  ·by_cases h2:o+1≤j∧j<o+1+r.length
   ·rw[if_pos h2,if_pos (by simp;omega)]
    rw[show j-o=(j-(o+1))+1 by omega];simp
   ·rw[if_neg h2,if_neg (by simp;omega)]
    simp[h1]
theorem setRange_all (cur new:Array Value) (h:cur.size=new.size):setRange cur 0 new.toList=new:=by
 apply Array.ext_getElem?
 intro j
 rw[setRange_get _ _ _ _ (by simp;omega)]
 by_cases h1:j<new.size
 ·rw[if_pos (by simp;omega)];simp
 ·rw[if_neg (by simp;omega),Array.getElem?_eq_none (by omega),Array.getElem?_eq_none (by omega)]
theorem range_of_block {w:World} {g:Nat} {cs:Array Value} {e:TypeId} (hg:w.heap[g]?=some (.cells cs e (0,0))):w.rangeAt g 0 cs.toList:=by
 intro j v hv
 simp[World.cell?,hg]
 simpa using hv
theorem there_of_block {w:World} {g:Nat} {cs:Array Value} {e:TypeId} (hg:w.heap[g]?=some (.cells cs e (0,0))) (n:Nat) (hn:n≤cs.size):w.there g 0 n:=by
 intro j hj
 simp[World.cell?,World.frozen?,hg]
 omega
variable {Pg:Program}
theorem run_loadVar_row (w:World) (g:Nat) (ty:TypeId) (cs:Array Value) (e:TypeId) (hg:w.heap[g]?=some (.cells cs e (0,0))) (d:TypeDesc) (hu:Pg.underlying ty=some d) (hd:d.isRow=true) (hi:(Pg.info? ty).map (·.size)=some cs.size) :
  (loadVar ty ⟨g,0,none⟩).run Pg w=.ok (.agg cs) w:=by
 have:=run_loadVar_mid (P:=Pg) w g 0 ty cs.toList d (range_of_block hg) hu hd (by simpa using hi)
 simpa using this
theorem wpList_load_row {ops:Array Oper} {rest:List Oper} {op:Oper} {a:Act} {w:World} {Q:Exit→Act→World→Prop} (hgd:op.guard=none) (ty:TypeId) (x:Operand) (ho:op.op=.load ty x)
  (g:Nat) (hx:a.eval x=.pointer (some ⟨g,0,none⟩)) (cs:Array Value) (e:TypeId) (hg:w.heap[g]?=some (.cells cs e (0,0))) (d:TypeDesc)
  (hu:Pg.underlying ty=some d) (hd:d.isRow=true) (hi:(Pg.info? ty).map (·.size)=some cs.size)
  (h:wpList Pg ops Q rest (a.put op.dst (.agg cs)) w):wpList Pg ops Q (op::rest) a w :=
 wpList_load_mid hgd ty x ho g 0 hx cs.toList d (range_of_block hg) hu hd (by simpa using hi) (by simpa using h)
theorem wpList_store_row {ops:Array Oper} {rest:List Oper} {op:Oper} {a:Act} {w:World} {Q:Exit→Act→World→Prop} (hgd:op.guard=none) (ty:TypeId) (x y:Operand) (ho:op.op=.store ty x y)
  (g:Nat) (cells cs:Array Value) (e:TypeId) (hx:a.eval x=.pointer (some ⟨g,0,none⟩)) (hy:a.eval y=.agg cells) (hg:w.heap[g]?=some (.cells cs e (0,0))) (hsz:cs.size=cells.size)
  (hi:(Pg.info? ty).map (·.size)=some cells.size) (h1:cells.all (·.oneCell')=true)
  (h:∀ w',w'.heap[g]?=some (.cells cells e (0,0))→w.grownBy w' (some g)→wpList Pg ops Q rest (a.put op.dst undef) w'):wpList Pg ops Q (op::rest) a w:=by
 refine wpList_store_mid hgd ty x y ho g 0 cells hx hy (there_of_block hg _ (by omega)) hi h1 ?_
 have hb:=setCells_block cells.toList 0 w cs hg
 rw[setRange_all cs cells hsz] at hb
 exact h _ hb (setCells_grown _ _ _)
theorem wpList_load_stm {ops:Array Oper} {rest:List Oper} {op:Oper} {a:Act} {w:World} {Q:Exit→Act→World→Prop} (x:Operand) (hgd:op.guard=none) (ho:op.op=.load 96 x)
  (g:Nat) (st:P.Stm) (hx:a.eval x=.pointer (some ⟨g,0,none⟩)) (hg:StmAt w g st)
  (h:wpList Tryz.prog ops Q rest (a.put op.dst (.agg (stmCells st))) w):wpList Tryz.prog ops Q (op::rest) a w :=
 wpList_load_row hgd _ x ho g hx _ _ hg _ Tryz.underlying96 rfl (by kernel_rfl) h
theorem wpList_store_stm {ops:Array Oper} {rest:List Oper} {op:Oper} {a:Act} {w:World} {Q:Exit→Act→World→Prop} (x y:Operand) (hgd:op.guard=none) (ho:op.op=.store 96 x y)
  (g:Nat) (st t:P.Stm) (hx:a.eval x=.pointer (some ⟨g,0,none⟩)) (hy:a.eval y=.agg (stmCells t)) (hg:StmAt w g st)
  (h:∀ w',StmAt w' g t→w.grownBy w' (some g)→wpList Tryz.prog ops Q rest (a.put op.dst undef) w'):wpList Tryz.prog ops Q (op::rest) a w :=
 wpList_store_row hgd _ x y ho g (stmCells t) (stmCells st) _ hx hy hg rfl (by kernel_rfl) (by simp[stmCells,Value.oneCell']) h
theorem stm_load {w:World} {g:Nat} {st:P.Stm} (h:StmAt w g st):(loadVar 96 ⟨g,0,none⟩).run Tryz.prog w=.ok (.agg (stmCells st)) w :=
 run_loadVar_row w g _ _ _ h _ Tryz.underlying96 rfl (by kernel_rfl)
def stmVal (r:P.Stm × Bool):Value:=.tuple #[.agg (stmCells r.1),.bool r.2]
theorem ret_stm {fn:Func} {R:Ending→World→Prop} {a:Act} {w:World} {p u:Tmp} (g:Nat) (st:P.Stm) (ok:Bool) (hres:fn.results=#[.cell p 96,.tmp u])
  (hp:a.tmps.getD p undef=.pointer (some ⟨g,0,none⟩)) (hu:a.tmps.getD u undef=.bool ok) (h:StmAt w g st) (hd:a.defers=[]) (hR:R (.returned (stmVal (st,ok))) w):bodyPost Tryz.prog fn R .ret a w:=by
 refine bodyPost_ret (v:=stmVal (st,ok)) ?_ hd hR
 rw[results_cell_tmp hres,hp,hu]
 have:(asAddr (.pointer (some ⟨g,0,none⟩))).run Tryz.prog w=.ok ⟨g,0,none⟩ w:=rfl
 rw[this,Result.andThen_ok,stm_load h,Result.andThen_ok]
 rfl
end Go.Proofs.YtgceflcbckjjiaaGreatDoor
namespace Go.Proofs.YtgceflcbckjjiaaGreatDoor
namespace P
structure Thr where
 block:Int
 line:Int
 stmts:List Stm
structure Rd where
 threads:List Thr
 line:Int
 count:Int
 ifs:Int
 opn:List Int
 most:Int
def Rd.zero:Rd:=⟨[],0,0,0,[],8⟩
def putLast:List Thr→Stm→List Thr
 | [],_=>[]
 | [t],s=>[{ t with stmts:=t.stmts++[s] }]
 | t::u::r,s=>t::putLast (u::r) s
theorem putLast_snoc (ts:List Thr) (t:Thr) (s:Stm):putLast (ts++[t]) s=ts++[{ t with stmts:=t.stmts++[s] }]:=by
 induction ts with
 | nil=>rfl
 | cons a r ih=>cases r with
  | nil=>rfl
  | cons b q=>simpa [putLast] using ih
theorem putLast_length (ts:List Thr) (s:Stm):(putLast ts s).length=ts.length:=by
 match ts with
 | []=>rfl
 | [_]=>rfl
 | t::u::r=>simpa [putLast] using putLast_length (u::r) s
def put (r:Rd) (s:Stm):Rd:={ r with threads:=putLast r.threads s }
def ends (r:Rd) (s:Stm):Rd × Bool :=
 match r.opn.getLast? with
 | none=>(r,false)
 | some l=>(put { r with opn:=r.opn.dropLast } { s with label:=l },true)
def branch (r:Rd) (s:Stm):Rd × Bool :=
 if 2≤r.opn.length then (r,false) else (put { r with ifs:=r.ifs+1,opn:=r.opn++[r.ifs+1] } { s with label:=r.ifs+1 },true)
def begins (r:Rd) (ws:List (List UInt8)):Rd × Bool :=
 if 4≤r.threads.length∨0<r.opn.length then (r,false)
 else match ws with
  | [_,[c]]=>if (digit c 2).2 then ({ r with threads:=r.threads++[⟨(digit c 2).1,r.line,[]⟩],count:=0 },true) else (r,false)
  | _=>(r,false)
def takes (r:Rd) (ws:List (List UInt8)):Rd × Bool :=
 if ws.head?==some [116,104,114,101,97,100] then begins r ws
 else if r.threads.isEmpty then (r,false)
 else
  let st:={ (statement ws).1 with line:=r.line }
  if (statement ws).2 then
   if st.kind==11 then ends r st
   else if 8≤r.count then (r,false)
   else if st.kind==10 then
    if 2≤r.opn.length then ({ r with count:=r.count+1 },false) else branch { r with count:=r.count+1 } st
   else (put { r with count:=r.count+1 } st,true)
  else (r,false)
def beginD (r:Rd) (b l:Int):Rd × Bool :=
 if 4≤r.threads.length∨0<r.opn.length then (r,false) else ({ r with threads:=r.threads++[⟨b,l,[]⟩],count:=0 },true)
def putD (r:Rd) (st:Stm):Rd × Bool :=
 if r.threads.isEmpty then (r,false)
 else if st.kind==11 then ends r st
 else if r.most≤r.count then (r,false)
 else if st.kind==10 then
  if 2≤r.opn.length then ({ r with count:=r.count+1 },false) else branch { r with count:=r.count+1 } st
 else (put { r with count:=r.count+1 } st,true)
theorem begins_D (r:Rd) (a:List UInt8) (c:UInt8):begins r [a,[c]]=if (digit c 2).2 then beginD r (digit c 2).1 r.line else (r,false):=by
 unfold begins beginD
 by_cases h:4≤r.threads.length∨0<r.opn.length
 ·simp only[if_pos h];split<;>rfl
 ·simp only[if_neg h]
theorem takes_D (r:Rd) (c:List UInt8) (rs:List (List UInt8)) (h:(c==[116,104,114,101,97,100])=false) (hm:r.most=8) :
  takes r (c::rs)=if (statement (c::rs)).2 then putD r { (statement (c::rs)).1 with line:=r.line } else (r,false):=by
 have h':((c::rs).head?==some [116,104,114,101,97,100])=false:=by simpa using h
 unfold takes putD
 rw[h',hm]
 simp only[Bool.false_eq_true,if_false]
 cases ht:r.threads.isEmpty
 ·simp only[Bool.false_eq_true,if_false]
 ·simp
theorem beginD_keep (r:Rd) (b l:Int):(beginD r b l).1.line=r.line∧(beginD r b l).1.most=r.most:=by
 unfold beginD;split<;>exact⟨rfl,rfl⟩
theorem ends_keep (r:Rd) (s:Stm):(ends r s).1.line=r.line∧(ends r s).1.most=r.most:=by
 unfold ends;split<;>exact⟨rfl,rfl⟩
theorem branch_keep (r:Rd) (s:Stm):(branch r s).1.line=r.line∧(branch r s).1.most=r.most:=by
 unfold branch;split<;>exact⟨rfl,rfl⟩
theorem putD_keep (r:Rd) (s:Stm):(putD r s).1.line=r.line∧(putD r s).1.most=r.most:=by
 unfold putD
 split
 ·exact⟨rfl,rfl⟩
 split
 ·exact ends_keep r s
 split
 ·exact⟨rfl,rfl⟩
 split
 ·split
  ·exact⟨rfl,rfl⟩
  ·exact branch_keep _ s
 ·exact⟨rfl,rfl⟩
theorem begins_keep (r:Rd) (ws:List (List UInt8)):(begins r ws).1.line=r.line∧(begins r ws).1.most=r.most:=by
 unfold begins
 split
 ·exact⟨rfl,rfl⟩
 split
 ·split<;>exact⟨rfl,rfl⟩
 ·exact⟨rfl,rfl⟩
theorem takes_keep (r:Rd) (ws:List (List UInt8)) (hm:r.most=8):(takes r ws).1.line=r.line∧(takes r ws).1.most=8:=by
 cases ws with
 | nil =>
  unfold takes
  simp only[List.head?_nil]
  have:((none:Option (List UInt8))==some [116,104,114,101,97,100])=false:=rfl
  rw[this]
  simp only[Bool.false_eq_true,if_false]
  have hs:(statement []).2=false:=by rfl
  rw[hs]
  simp only[Bool.false_eq_true,if_false]
  split<;>exact⟨rfl,hm⟩
 | cons c rs =>
  cases h:(c==[116,104,114,101,97,100])
  ·rw[takes_D r c rs h hm]
   split
   ·have:=putD_keep r { (statement (c::rs)).1 with line:=r.line }
    exact⟨this.1,this.2.trans hm⟩
   ·exact⟨rfl,hm⟩
  ·have h':((c::rs).head?==some [116,104,114,101,97,100])=true:=by simpa using h
   unfold takes
   rw[h',if_pos rfl]
   have:=begins_keep r (c::rs)
   exact⟨this.1,this.2.trans hm⟩
end P
end Go.Proofs.YtgceflcbckjjiaaGreatDoor
