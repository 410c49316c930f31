import Derived.WalkSpells
import Derived.Deep.MidRow
import Derived.Laws.Bits64b
import Derived.Deep.RegionLaw
import Derived.Deep.RegionWith
import Derived.BigQuiet
import Derived.Deep.QuietTactic
import Derived.Deep.OwnRows
import Derived.Test.YtgceflcbckjjiaaGreatDoorB01
set_option linter.unusedVariables false
set_option linter.unusedSimpArgs false
namespace Go.Proofs.YtgceflcbckjjiaaGreatDoor
open Go Go.RowKit
set_option maxRecDepth 100000
theorem ba_of (x:ByteArray) (l:List UInt8) (h:x.data.toList=l):x=⟨l.toArray⟩:=by
 subst h
 cases x
 simp
theorem mk_toList (l:List UInt8):(⟨l.toArray⟩:ByteArray).toList=l:=by rw[toList_data]
theorem app_toList (a b:ByteArray):(a++b).toList=a.toList++b.toList:=by
 rw[toList_data,toList_data,toList_data];simp
theorem lit_toList (l:Array UInt8):(⟨l⟩:ByteArray).toList=l.toList:=by rw[toList_data]
theorem lit_size (l:Array UInt8):(⟨l⟩:ByteArray).size=l.size:=rfl
def Txt (k:Nat) (s:ByteArray) (l:List UInt8):Prop:=s.toList=l∧s.size≤k
theorem Txt.size {k:Nat} {s:ByteArray} {l:List UInt8} (h:Txt k s l):s.size≤k:=h.2
set_option maxHeartbeats 1600000 in
theorem linesK_any (s:ByteArray) (w:World) (hs:s.size≤10000000) :
  Calls Tryz.prog 16 #[.string s] w fun e w'=>∃ v,∃ ws:List ByteArray,e=.returned v∧ws.map ByteArray.toList=(P.splitAt 10 s.toList).dropLast∧(∀ x∈ws,x.size≤s.size)∧w'.ownsRow w.heap.size 9 1 v ws.length (ws.map Value.string)∧Below w.heap.size w w':=by
 obtain⟨i0,hi,hz0,hz1,hz2⟩:=info_parts Tryz.infoStr
 go_enter Tryz.func16,Tryz.ntmps16
 go_wp2
 go_loopw [3,4,5] (fun v f i wr=>∃ k m:Nat,∃ bs:List ByteArray,∃ v',v=v'∧k≤s.size∧m≤k∧i=.int .i64 k∧f=.int .i64 m∧bs.length≤k∧Hid (P.splitAt 10 (s.toList.take k)=bs.map ByteArray.toList++[(s.toList.take k).drop m]) ∧
   Hid (∀ x∈bs,x.size≤s.size)∧Hid (wr.ownsRow w.heap.size 9 1 v' bs.length (bs.map Value.string))∧Hid (Below w.heap.size w wr)) (fun _ _ i _=>s.size-(intOf i).toNat)
 case atStart=>exact⟨0,0,[],_,rfl,Nat.zero_le _,Nat.le_refl _,rfl,rfl,Nat.le_refl _,by unfold Hid;simp[P.splitAt],fun x hx=>by simp at hx,World.ownsRow_nil _ _ _ _,Below.refl _ _⟩
 case round =>
  obtain⟨k,m,bs,v',hv,hk,hm,rfl,rfl,hbl,HS,HXS,HO,HB⟩:=hrel
  have hv:=hv.symm
  subst hv
  have hmk:(m:Int)≤(k:Int):=by omega
  by_cases hlt:k<s.size
  ·have hlt':(k:Int)<(s.size:Int):=by omega
   have hk0:(0:Int)≤(k:Int):=by omega
   have hle':(k:Int)≤(s.size:Int):=by omega
   have hm0:(0:Int)≤(m:Int):=by omega
   by_cases hc:s[k]=10
   ·have hq:((s[k].toNat:Int)==10)=true:=by rw[hc];rfl
    have HC:=hide hc
    clear hc
    have hsl:=HB.out.size
    have hex:∀ wx,(Instr.slice 9 (.string s) (some (.int .i64 (m:Int))) (some (.int .i64 (k:Int))) none).run Tryz.prog wx=.ok (.string (s.extract m k)) wx:=fun wx=>by
     rw[run_slice_string wx 9 s .i64 .i64 _ _ Tryz.underlying9 (by omega) (by omega) (by omega),show ((k:Int)).toNat=k by omega,show ((m:Int)).toNat=m by omega]
    have HO2:Hid ((wr.alloc (.cells #[.string (s.extract m k)] 9)).ownsRow w.heap.size 9 1 v' bs.length (bs.map Value.string)):=HO.out.alloc _
    have HN2:Hid (∀ j u,[Value.string (s.extract m k)][j]?=some u→(wr.alloc (.cells #[.string (s.extract m k)] 9)).cell? ((⟨wr.heap.size,0,none⟩:Addr).add j)=some u):=World.news_of_block (cs:=#[.string (s.extract m k)]) (t:=9) (fr:=(0,0)) (heap_alloc_new wr _)
    go_wp2_with (first
     | (at_builtin;refine wpList_append_lies _ rfl (.tmp 16) (.tmp 21) 37 rfl w.heap.size 9 i0 (.string ByteArray.empty) 1 16 Tryz.underlying37 hi hz0 hz1 hz2 rfl (by decide) _ bs.length (bs.map Value.string) rfl (by exact HO2.out) ⟨wr.heap.size,0,none⟩ 1 1 [.string (s.extract m k)] rfl rfl (by exact HN2.out) (by simp[Value.oneCell']) (by decide) (by unfold maxLen;omega) (by omega) (by simp;omega) _ rfl ?_;intro g cap w1 hown' hgrow hat hglt))
    have HR:=hide (split_step 10 s k m bs hlt HS.out HC.out)
    have hb1:Hid (Below w.heap.size w w1):=(HB.out.alloc HB.out.size _).grown hgrow (by have:=HB.out.size;simp;omega) (fun j hj=>(HO.out.lt j hj).1)
    have HO3:Hid (w1.ownsRow w.heap.size 9 1 (.slice (some ⟨g,0,none⟩) (bs.length+1) cap) (bs++[s.extract m k]).length ((bs++[s.extract m k]).map Value.string)):=by unfold Hid;simpa using hown'
    have HXS2:Hid (∀ x∈bs++[s.extract m k],x.size≤s.size):=fun x hx=>by
     rcases List.mem_append.1 hx with hx | hx
     ·exact HXS.out x hx
     ·simp at hx
      subst hx
      rw[ByteArray.size_extract];omega
    clear hown' hgrow hat HS
    (try go_wp2)
    go_roundw
    case rel=>exact⟨k+1,k+1,bs++[s.extract m k],_,rfl,by omega,Nat.le_refl _,by go_num,by go_num,by simp;omega,HR,HXS2,HO3,hb1⟩
    case measure=>simp[intOf];omega
   ·have hq:((s[k].toNat:Int)==10)=false:=by
     rw[beq_eq_false_iff_ne]
     intro e
     apply hc
     apply UInt8.toNat_inj.1
     have:s[k].toNat=10:=by omega
     rw[this];rfl
    have HR:=hide (split_stay 10 s k m bs hlt hm HS.out hc)
    clear HS hc
    go_wp2
    go_roundw
    case rel=>exact⟨k+1,m,bs,_,rfl,by omega,by omega,by go_num,rfl,by omega,HR,HXS,HO,HB⟩
    case measure=>simp[intOf];omega
  ·have hnlt:decide ((k:Int)<(s.size:Int))=false:=decide_eq_false (by omega)
   have HS2:Hid (bs.map ByteArray.toList=(P.splitAt 10 s.toList).dropLast):=by
    have hks:k=s.size:=by omega
    subst hks
    unfold Hid
    have:=HS.out
    rw[List.take_of_length_le (by rw[size_toList];exact Nat.le_refl _)] at this
    rw[this];simp
   clear HS
   go_wp2
   go_ret
   exact⟨_,rfl,bs,HS2.out,HXS.out,HO.out,HB.out⟩
namespace P
def beginsB (a t:List UInt8):Bool:=decide (t.length≤a.length)&&(a.take t.length==t)
end P
set_option maxHeartbeats 1600000 in
theorem beginsK_any (s t:ByteArray) (w:World) :
  Calls Tryz.prog 18 #[.string s,.string t] w fun e w'=>e=.returned (.bool (P.beginsB s.toList t.toList))∧w'=w:=by
 have HB:Hid (P.beginsB s.toList t.toList=(decide (t.size≤s.size)&&((s.extract 0 t.size).toList==t.toList))):=by
  unfold Hid P.beginsB
  rw[size_toList,size_toList,extract_toList,List.drop_zero]
 by_cases h:t.size≤s.size
 ·have h':(t.size:Int)≤(s.size:Int):=by omega
  have hb2:P.beginsB s.toList t.toList=((s.extract 0 t.size).toList==t.toList):=by rw[HB.out,decide_eq_true h,Bool.true_and]
  have HB2:=hide hb2
  clear hb2
  go_enter Tryz.func18,Tryz.ntmps18
  go_wp2
  go_ret
  rw[HB2.out];exact⟨rfl,rfl⟩
 ·have h':decide ((t.size:Int)≤(s.size:Int))=false:=decide_eq_false (by omega)
  have hb2:P.beginsB s.toList t.toList=false:=by rw[HB.out,decide_eq_false h,Bool.false_and]
  have HB2:=hide hb2
  clear hb2
  go_enter Tryz.func18,Tryz.ntmps18
  go_wp2
  go_ret
  rw[HB2.out];exact⟨rfl,rfl⟩
theorem pick2_any (c:Int) (w:World) (h0:-9223372036854775808≤c) (h1:c<9223372036854775808) :
  Calls Tryz.prog 9 #[.int .i64 c,.int .i64 2] w fun e w'=>∃ i:Nat,i<2∧e=.returned (.int .i64 (i:Int))∧w'=w:=by
 by_cases hc:c<0
 ·have hw1:IntKind.i64.wrap (c+1)=c+1:=by simp[IntKind.wrap,IntKind.signed,IntKind.bits];omega
  have hw2:IntKind.i64.wrap (-(c+1))=-(c+1):=by simp[IntKind.wrap,IntKind.signed,IntKind.bits];omega
  have hr:-((c+1).tmod 2)=(-(c+1)) % 2:=by rw[← Int.neg_tmod,Int.tmod_eq_emod_of_nonneg (by omega)]
  have HR:Hid (-((c+1).tmod 2)=(((-(c+1)) % 2).toNat:Int)):=by unfold Hid;rw[hr];omega
  clear hr
  go_enter Tryz.func9,Tryz.ntmps9
  go_wp2
  go_ret
  refine⟨((-(c+1)) % 2).toNat,by omega,?_,rfl⟩
  rw[← HR.out];rfl
 ·have HR:Hid (c % 2=((c % 2).toNat:Int)):=by unfold Hid;omega
  go_enter Tryz.func9,Tryz.ntmps9
  go_wp2
  go_ret
  refine⟨(c % 2).toNat,by omega,?_,rfl⟩
  rw[← HR.out];rfl
theorem pick3_any (c:Int) (w:World) (h0:-9223372036854775808≤c) (h1:c<9223372036854775808) :
  Calls Tryz.prog 9 #[.int .i64 c,.int .i64 3] w fun e w'=>∃ i:Nat,i<3∧e=.returned (.int .i64 (i:Int))∧w'=w:=by
 by_cases hc:c<0
 ·have hw1:IntKind.i64.wrap (c+1)=c+1:=by simp[IntKind.wrap,IntKind.signed,IntKind.bits];omega
  have hw2:IntKind.i64.wrap (-(c+1))=-(c+1):=by simp[IntKind.wrap,IntKind.signed,IntKind.bits];omega
  have hr:-((c+1).tmod 3)=(-(c+1)) % 3:=by rw[← Int.neg_tmod,Int.tmod_eq_emod_of_nonneg (by omega)]
  have HR:Hid (-((c+1).tmod 3)=(((-(c+1)) % 3).toNat:Int)):=by unfold Hid;rw[hr];omega
  clear hr
  go_enter Tryz.func9,Tryz.ntmps9
  go_wp2
  go_ret
  refine⟨((-(c+1)) % 3).toNat,by omega,?_,rfl⟩
  rw[← HR.out];rfl
 ·have HR:Hid (c % 3=((c % 3).toNat:Int)):=by unfold Hid;omega
  go_enter Tryz.func9,Tryz.ntmps9
  go_wp2
  go_ret
  refine⟨(c % 3).toNat,by omega,?_,rfl⟩
  rw[← HR.out];rfl
namespace P
def passing (x one y two:List UInt8):List UInt8:=[116,104,114,101,97,100,32,48,10,115,116,111,114,101,32,120,32,49,32]++x++one++[115,116,111,114,101,32,121,32,49,32]++y++[116,104,114,101,97,100,32,49,10,114,48,32,61,32,108,111,97,100,32,121,32]++y++two++[114,49,32,61,32,108,111,97,100,32,120,32]++x
def crossing (b sc:List UInt8):List UInt8:=[116,104,114,101,97,100,32,48,10,115,116,111,114,101,32,120,32,49]++([32,114,101,108,97,120,101,100,32]++sc++[10])++b++[114,48,32,61,32,108,111,97,100,32,121]++([32,114,101,108,97,120,101,100,32]++sc++[10])++[116,104,114,101,97,100,32,49,10,115,116,111,114,101,32,121,32,49]++([32,114,101,108,97,120,101,100,32]++sc++[10])++b++[114,48,32,61,32,108,111,97,100,32,120]++([32,114,101,108,97,120,101,100,32]++sc++[10])
end P
set_option maxHeartbeats 1600000 in
theorem passing_any (x one y two:ByteArray) (w:World) (h1:x.size≤1000) (h2:one.size≤1000) (h3:y.size≤1000) (h4:two.size≤1000) :
  Calls Tryz.prog 21 #[.string x,.string one,.string y,.string two] w fun e w'=>∃ t,e=.returned (.string t)∧t.toList=P.passing x.toList one.toList y.toList two.toList∧w'=w:=by
 go_enter Tryz.func21,Tryz.ntmps21
 go_wp2
 go_ret
 refine⟨_,rfl,?_,rfl⟩
 simp only[P.passing,app_toList,lit_toList]
set_option maxHeartbeats 1600000 in
theorem crossing_any (b sc:ByteArray) (w:World) (h1:b.size≤1000) (h2:sc.size≤1000) :
  Calls Tryz.prog 22 #[.string b,.string sc] w fun e w'=>∃ t,e=.returned (.string t)∧t.toList=P.crossing b.toList sc.toList∧w'=w:=by
 go_enter Tryz.func22,Tryz.ntmps22
 go_wp2
 go_ret
 refine⟨_,rfl,?_,rfl⟩
 simp only[P.crossing,app_toList,lit_toList]
def setRange (cur:Array Value) (o:Nat):List Value→Array Value
 | []=>cur
 | v::r=>setRange (cur.setIfInBounds o v) (o+1) r
theorem setCells_block {g:Nat} {e:TypeId} {fr:Nat × Nat}:∀ (vs:List Value) (o:Nat) (w:World) (cur:Array Value),w.heap[g]?=some (.cells cur e fr)→(w.setCells g o vs).heap[g]?=some (.cells (setRange cur o vs) e fr)
 | [],_,_,_,h=>h
 | v::r,o,w,cur,h=>by
  rw[World.setCells]
  exact setCells_block r (o+1) _ _ (setCell_block h o v)
theorem setCells_grown {g:Nat}:∀ (vs:List Value) (o:Nat) (w:World),w.grownBy (w.setCells g o vs) (some g)
 | [],_,w=>grown_refl w _
 | v::r,o,w=>by
  rw[World.setCells]
  exact grown_trans (grown_setCell (grown_refl _ _) _ _) (setCells_grown r (o+1) _)
theorem setRange_size (vs:List Value):∀ (o:Nat) (cur:Array Value),(setRange cur o vs).size=cur.size:=by
 induction vs with
 | nil=>intro o cur;rfl
 | cons v r ih=>intro o cur;rw[setRange,ih];simp
theorem setRange_get (vs:List Value):∀ (o:Nat) (cur:Array Value) (j:Nat),o+vs.length≤cur.size→(setRange cur o vs)[j]?=if o≤j∧j<o+vs.length then vs[j-o]? else cur[j]?:=by
 induction vs with
 | nil=>intro o cur j _;simp[setRange];omega
 | cons v r ih =>
  intro o cur j h
  simp at h
  rw[setRange,ih _ _ _ (by simp;omega)]
  by_cases h1:o=j
  ·subst h1
   rw[if_neg (by omega),if_pos (by simp)]
   simp[Array.getElem?_setIfInBounds];omega
  ·by_cases h2:o+1≤j∧j<o+1+r.length
   ·rw[if_pos h2,if_pos (by simp;omega)]
    rw[show j-o=(j-(o+1))+1 by omega];simp
   ·rw[if_neg h2,if_neg (by simp;omega)]
    simp[h1]
theorem setRange_all (cur new:Array Value) (h:cur.size=new.size):setRange cur 0 new.toList=new:=by
 apply Array.ext_getElem?
 intro j
 rw[setRange_get _ _ _ _ (by simp;omega)]
 by_cases h1:j<new.size
 ·rw[if_pos (by simp;omega)];simp
 ·rw[if_neg (by simp;omega),Array.getElem?_eq_none (by omega),Array.getElem?_eq_none (by omega)]
theorem range_of_block {w:World} {g:Nat} {cs:Array Value} {e:TypeId} (hg:w.heap[g]?=some (.cells cs e (0,0))):w.rangeAt g 0 cs.toList:=by
 intro j v hv
 simp[World.cell?,hg]
 simpa using hv
theorem there_of_block {w:World} {g:Nat} {cs:Array Value} {e:TypeId} (hg:w.heap[g]?=some (.cells cs e (0,0))) (n:Nat) (hn:n≤cs.size):w.there g 0 n:=by
 intro j hj
 simp[World.cell?,World.frozen?,hg]
 omega
variable {Pg:Program}
theorem run_loadVar_row (w:World) (g:Nat) (ty:TypeId) (cs:Array Value) (e:TypeId) (hg:w.heap[g]?=some (.cells cs e (0,0))) (d:TypeDesc) (hu:Pg.underlying ty=some d) (hd:d.isRow=true) (hi:(Pg.info? ty).map (·.size)=some cs.size) :
  (loadVar ty ⟨g,0,none⟩).run Pg w=.ok (.agg cs) w:=by
 have:=run_loadVar_mid (P:=Pg) w g 0 ty cs.toList d (range_of_block hg) hu hd (by simpa using hi)
 simpa using this
theorem wpList_load_row {ops:Array Oper} {rest:List Oper} {op:Oper} {a:Act} {w:World} {Q:Exit→Act→World→Prop} (hgd:op.guard=none) (ty:TypeId) (x:Operand) (ho:op.op=.load ty x)
  (g:Nat) (hx:a.eval x=.pointer (some ⟨g,0,none⟩)) (cs:Array Value) (e:TypeId) (hg:w.heap[g]?=some (.cells cs e (0,0))) (d:TypeDesc)
  (hu:Pg.underlying ty=some d) (hd:d.isRow=true) (hi:(Pg.info? ty).map (·.size)=some cs.size)
  (h:wpList Pg ops Q rest (a.put op.dst (.agg cs)) w):wpList Pg ops Q (op::rest) a w :=
 wpList_load_mid hgd ty x ho g 0 hx cs.toList d (range_of_block hg) hu hd (by simpa using hi) (by simpa using h)
theorem wpList_store_row {ops:Array Oper} {rest:List Oper} {op:Oper} {a:Act} {w:World} {Q:Exit→Act→World→Prop} (hgd:op.guard=none) (ty:TypeId) (x y:Operand) (ho:op.op=.store ty x y)
  (g:Nat) (cells cs:Array Value) (e:TypeId) (hx:a.eval x=.pointer (some ⟨g,0,none⟩)) (hy:a.eval y=.agg cells) (hg:w.heap[g]?=some (.cells cs e (0,0))) (hsz:cs.size=cells.size)
  (hi:(Pg.info? ty).map (·.size)=some cells.size) (h1:cells.all (·.oneCell')=true)
  (h:∀ w',w'.heap[g]?=some (.cells cells e (0,0))→w.grownBy w' (some g)→wpList Pg ops Q rest (a.put op.dst undef) w'):wpList Pg ops Q (op::rest) a w:=by
 refine wpList_store_mid hgd ty x y ho g 0 cells hx hy (there_of_block hg _ (by omega)) hi h1 ?_
 have hb:=setCells_block cells.toList 0 w cs hg
 rw[setRange_all cs cells hsz] at hb
 exact h _ hb (setCells_grown _ _ _)
theorem wpList_load_stm {ops:Array Oper} {rest:List Oper} {op:Oper} {a:Act} {w:World} {Q:Exit→Act→World→Prop} (x:Operand) (hgd:op.guard=none) (ho:op.op=.load 96 x)
  (g:Nat) (st:P.Stm) (hx:a.eval x=.pointer (some ⟨g,0,none⟩)) (hg:StmAt w g st)
  (h:wpList Tryz.prog ops Q rest (a.put op.dst (.agg (stmCells st))) w):wpList Tryz.prog ops Q (op::rest) a w :=
 wpList_load_row hgd _ x ho g hx _ _ hg _ Tryz.underlying96 rfl (by kernel_rfl) h
theorem wpList_store_stm {ops:Array Oper} {rest:List Oper} {op:Oper} {a:Act} {w:World} {Q:Exit→Act→World→Prop} (x y:Operand) (hgd:op.guard=none) (ho:op.op=.store 96 x y)
  (g:Nat) (st t:P.Stm) (hx:a.eval x=.pointer (some ⟨g,0,none⟩)) (hy:a.eval y=.agg (stmCells t)) (hg:StmAt w g st)
  (h:∀ w',StmAt w' g t→w.grownBy w' (some g)→wpList Tryz.prog ops Q rest (a.put op.dst undef) w'):wpList Tryz.prog ops Q (op::rest) a w :=
 wpList_store_row hgd _ x y ho g (stmCells t) (stmCells st) _ hx hy hg rfl (by kernel_rfl) (by simp[stmCells,Value.oneCell']) h
theorem stm_load {w:World} {g:Nat} {st:P.Stm} (h:StmAt w g st):(loadVar 96 ⟨g,0,none⟩).run Tryz.prog w=.ok (.agg (stmCells st)) w :=
 run_loadVar_row w g _ _ _ h _ Tryz.underlying96 rfl (by kernel_rfl)
def stmVal (r:P.Stm × Bool):Value:=.tuple #[.agg (stmCells r.1),.bool r.2]
theorem ret_stm {fn:Func} {R:Ending→World→Prop} {a:Act} {w:World} {p u:Tmp} (g:Nat) (st:P.Stm) (ok:Bool) (hres:fn.results=#[.cell p 96,.tmp u])
  (hp:a.tmps.getD p undef=.pointer (some ⟨g,0,none⟩)) (hu:a.tmps.getD u undef=.bool ok) (h:StmAt w g st) (hd:a.defers=[]) (hR:R (.returned (stmVal (st,ok))) w):bodyPost Tryz.prog fn R .ret a w:=by
 refine bodyPost_ret (v:=stmVal (st,ok)) ?_ hd hR
 rw[results_cell_tmp hres,hp,hu]
 have:(asAddr (.pointer (some ⟨g,0,none⟩))).run Tryz.prog w=.ok ⟨g,0,none⟩ w:=rfl
 rw[this,Result.andThen_ok,stm_load h,Result.andThen_ok]
 rfl
end Go.Proofs.YtgceflcbckjjiaaGreatDoor
namespace Go.Proofs.YtgceflcbckjjiaaGreatDoor
namespace Q
def one (i:Int):Nat:=if i<0∨64≤i then 0 else 2 ^ i.toNat
def hasS (s:Nat) (i:Int):Bool:=(s &&& one i) != 0
def moved (s:Nat) (n:Int):Nat:=if n<0∨64≤n then 0 else s*2 ^ n.toNat % 18446744073709551616
def ofR (r:List Nat) (a:Int):Nat:=if a<0 then 0 else r.getD a.toNat 0
def hasR (r:List Nat) (a b:Int):Bool:=hasS (ofR r a) b
def newR (n:Nat):List Nat:=List.replicate n 0
def addR (r:List Nat) (a b:Int):List Nat:=if a<0∨(r.length:Int)≤a∨(r.length:Int)≤b then r else r.set a.toNat (ofR r a ||| one b)
def orR (r o:List Nat):List Nat:=(List.range r.length).map fun i:Nat=>ofR r (i:Int) ||| ofR o (i:Int)
def andR (r o:List Nat):List Nat:=(List.range r.length).map fun i:Nat=>ofR r (i:Int) &&& ofR o (i:Int)
def turnB (r:List Nat) (a:Nat) (t:List Nat) (b:Nat):List Nat:=if hasR r a b then addR t b a else t
def turnA (r:List Nat) (t:List Nat) (a:Nat):List Nat:=(List.range r.length).foldl (turnB r a) t
def turnedR (r:List Nat):List Nat:=(List.range r.length).foldl (turnA r) (newR r.length)
def thenB (r next:List Nat) (a:Nat) (acc:Nat) (b:Nat):Nat:=if hasR r a b then acc ||| ofR next b else acc
def thenA (r next:List Nat) (a:Nat):Nat:=(List.range r.length).foldl (thenB r next a) 0
def thenR (r next:List Nat):List Nat:=(List.range r.length).map (thenA r next)
def closeB (b:Nat) (c:List Nat) (a:Nat):List Nat:=if hasR c a b then c.set a (ofR c a ||| ofR c b) else c
def closeA (n:Nat) (c:List Nat) (b:Nat):List Nat:=(List.range n).foldl (closeB b) c
def closedR (r:List Nat):List Nat:=(List.range r.length).foldl (closeA r.length) (orR r r)
def leadsR (r:List Nat):Bool:=r.any fun x=>x != 0
def loopsR (r:List Nat):Bool:=(List.range r.length).any fun i:Nat=>hasR r (i:Int) (i:Int)
def circlesR (r:List Nat):Bool:=loopsR (closedR r)
abbrev M64:Nat:=18446744073709551616
structure Fits (r:List Nat):Prop where
 len:r.length≤64
 lt:∀ x∈r,x<M64
theorem one_lt (i:Int):one i<M64:=by
 unfold one
 split
 ·decide
 ·have:i.toNat≤63:=by omega
  exact Nat.lt_of_le_of_lt (Nat.pow_le_pow_right (by omega) this) (by decide)
theorem or_lt {a b:Nat} (ha:a<M64) (hb:b<M64):a ||| b<M64:=Nat.or_lt_two_pow (n:=64) ha hb
theorem and_lt {a b:Nat} (hb:b<M64):a &&& b<M64:=Nat.and_lt_two_pow (n:=64) a hb
theorem getD_in (r:List Nat) (i:Nat) (h:i<r.length):r.getD i 0=r[i]:=by simp[List.getD,List.getElem?_eq_getElem h]
theorem getD_out (r:List Nat) (i:Nat) (h:r.length≤i):r.getD i 0=0:=by simp[List.getD,List.getElem?_eq_none h]
theorem ofR_lt {r:List Nat} (h:Fits r) (a:Int):ofR r a<M64:=by
 unfold ofR
 split
 ·decide
 ·by_cases hl:a.toNat<r.length
  ·rw[getD_in _ _ hl];exact h.lt _ (List.getElem_mem hl)
  ·rw[getD_out _ _ (by omega)];decide
theorem ofR_nat (r:List Nat) (i:Nat):ofR r (i:Int)=r.getD i 0:=by
 unfold ofR;rw[if_neg (by omega)];rfl
theorem ofR_get (r:List Nat) (i:Nat) (h:i<r.length):ofR r (i:Int)=r[i]:=by
 rw[ofR_nat,getD_in _ _ h]
theorem ofR_out (r:List Nat) (a:Int) (h:a<0∨(r.length:Int)≤a):ofR r a=0:=by
 unfold ofR
 split
 ·rfl
 ·rw[getD_out _ _ (by omega)]
theorem fits_new (n:Nat) (h:n≤64):Fits (newR n):=⟨by simpa [newR] using h,fun x hx=>by rw[List.eq_of_mem_replicate hx];decide⟩
theorem fits_set {r:List Nat} (h:Fits r) (i x:Nat) (hx:x<M64):Fits (r.set i x) :=
 ⟨by simpa using h.len,fun y hy=>by rcases List.mem_or_eq_of_mem_set hy with hy | rfl;exact h.lt _ hy;exact hx⟩
theorem add_len (r:List Nat) (a b:Int):(addR r a b).length=r.length:=by unfold addR;split<;>simp
theorem fits_add {r:List Nat} (h:Fits r) (a b:Int):Fits (addR r a b):=by
 unfold addR
 split
 ·exact h
 ·exact fits_set h _ _ (or_lt (ofR_lt h _) (one_lt _))
theorem or_len (r o:List Nat):(orR r o).length=r.length:=by simp[orR]
theorem and_len (r o:List Nat):(andR r o).length=r.length:=by simp[andR]
theorem then_len (r o:List Nat):(thenR r o).length=r.length:=by simp[thenR]
theorem fits_or {r o:List Nat} (h:Fits r) (k:Fits o):Fits (orR r o) :=
 ⟨by rw[or_len];exact h.len,fun x hx=>by simp only[orR,List.mem_map] at hx;obtain⟨i,_,rfl⟩:=hx;exact or_lt (ofR_lt h _) (ofR_lt k _)⟩
theorem fits_and {r o:List Nat} (h:Fits r) (k:Fits o):Fits (andR r o) :=
 ⟨by rw[and_len];exact h.len,fun x hx=>by simp only[andR,List.mem_map] at hx;obtain⟨i,_,rfl⟩:=hx;exact and_lt (ofR_lt k _)⟩
theorem thenB_lt {r o:List Nat} (k:Fits o) (a:Nat) (l:List Nat):∀ acc,acc<M64→l.foldl (thenB r o a) acc<M64:=by
 induction l with
 | nil=>intro acc h;exact h
 | cons b q ih =>
  intro acc h
  refine ih _ ?_
  unfold thenB;split
  ·exact or_lt h (ofR_lt k _)
  ·exact h
theorem fits_then {r o:List Nat} (h:Fits r) (k:Fits o):Fits (thenR r o) :=
 ⟨by rw[then_len];exact h.len,fun x hx=>by simp only[thenR,List.mem_map] at hx;obtain⟨i,_,rfl⟩:=hx;exact thenB_lt k _ _ _ (by decide)⟩
theorem foldl_range_succ {α:Type} (f:α→Nat→α) (x:α) (n:Nat):(List.range (n+1)).foldl f x=f ((List.range n).foldl f x) n:=by
 rw[List.range_succ,List.foldl_append];rfl
theorem closeB_len (b:Nat) (c:List Nat) (a:Nat):(closeB b c a).length=c.length:=by unfold closeB;split<;>simp
theorem closeB_fits {c:List Nat} (h:Fits c) (b a:Nat):Fits (closeB b c a):=by
 unfold closeB;split
 ·exact fits_set h _ _ (or_lt (ofR_lt h _) (ofR_lt h _))
 ·exact h
theorem fold_keep {α:Type} (P:α→Prop) (f:α→Nat→α) (hf:∀ x i,P x→P (f x i)) (l:List Nat):∀ x,P x→P (l.foldl f x):=by
 induction l with
 | nil=>intro x h;exact h
 | cons i q ih=>intro x h;exact ih _ (hf _ _ h)
theorem closeA_ok (n m b:Nat) {c:List Nat} (h:Fits c∧c.length=m):Fits (closeA n c b)∧(closeA n c b).length=m :=
 fold_keep (fun c=>Fits c∧c.length=m) _ (fun x i hx=>⟨closeB_fits hx.1 _ _,by rw[closeB_len];exact hx.2⟩) _ _ h
theorem closed_ok {r:List Nat} (h:Fits r):Fits (closedR r)∧(closedR r).length=r.length :=
 fold_keep (fun c=>Fits c∧c.length=r.length) _ (fun x i hx=>closeA_ok _ _ _ hx) _ _ ⟨fits_or h h,or_len _ _⟩
theorem turnA_ok (r:List Nat) (a m:Nat) {t:List Nat} (h:Fits t∧t.length=m):Fits (turnA r t a)∧(turnA r t a).length=m :=
 fold_keep (fun c=>Fits c∧c.length=m) _ (fun x i hx=>by unfold turnB;split;exact⟨fits_add hx.1 _ _,by rw[add_len];exact hx.2⟩;exact hx) _ _ h
theorem turned_ok {r:List Nat} (h:r.length≤64):Fits (turnedR r)∧(turnedR r).length=r.length :=
 fold_keep (fun c=>Fits c∧c.length=r.length) _ (fun x i hx=>turnA_ok _ _ _ hx) _ _ ⟨fits_new _ h,by simp[newR]⟩
end Q
end Go.Proofs.YtgceflcbckjjiaaGreatDoor
namespace Go.Proofs.YtgceflcbckjjiaaGreatDoor
open Go Go.RowKit
set_option maxRecDepth 100000
theorem Tryz.infoSet:(Tryz.prog.info? 156).map (fun i=>(i.zero,i.size,i.bytes))=some (some (.int .u64 0),1,8):=by kernel_rfl
theorem pow_wrap (n:Nat) (h:n<64):IntKind.u64.wrap ((2:Int) ^ n)=((2 ^ n:Nat):Int):=by
 have h1:(2:Nat) ^ n<2 ^ 64:=Nat.pow_lt_pow_right (by omega) h
 have h2:((2:Int) ^ n)=((2 ^ n:Nat):Int):=by push_cast;rfl
 rw[h2]
 have h3:(2:Nat) ^ n≤18446744073709551615:=Nat.le_of_lt_succ h1
 exact IntWalk.u64_in _ ⟨Int.natCast_nonneg _,Int.ofNat_le.2 h3⟩
set_option maxHeartbeats 400000 in
theorem one_any (i:Int) (w:World) :
  Calls Tryz.prog 159 #[.int .i64 i] w fun e w'=>e=.returned (.int .u64 (Q.one i:Nat))∧w'=w:=by
 by_cases h0:i<0
 ·have HE:Hid (Q.one i=0):=by unfold Hid Q.one;rw[if_pos (Or.inl h0)]
  go_enter Tryz.func159,Tryz.ntmps159
  go_wp2
  go_ret
  rw[HE.out];exact⟨rfl,rfl⟩
 by_cases h1:64≤i
 ·have HE:Hid (Q.one i=0):=by unfold Hid Q.one;rw[if_pos (Or.inr h1)]
  go_enter Tryz.func159,Tryz.ntmps159
  go_wp2
  go_ret
  rw[HE.out];exact⟨rfl,rfl⟩
 ·have HE:Hid (IntKind.u64.wrap ((2:Int) ^ i.toNat)=(Q.one i:Nat)):=by unfold Hid Q.one;rw[if_neg (by omega)];exact pow_wrap _ (by omega)
  go_enter Tryz.func159,Tryz.ntmps159
  go_wp2
  go_ret
  exact⟨by first | (rw[← HE.out];rfl) | (simp;exact HE.out),rfl⟩
set_option maxHeartbeats 400000 in
theorem hasS_any (s:Nat) (i:Int) (w:World) (hs:s<Q.M64) :
  Calls Tryz.prog 160 #[.int .u64 (s:Nat),.int .i64 i] w fun e w'=>e=.returned (.bool (Q.hasS s i))∧w'=w:=by
 have h1:=bits_and_u64_nat s (Q.one i) hs (Q.one_lt i)
 have HE:Hid (Q.hasS s i=((s &&& Q.one i) != 0)):=rfl
 generalize (s &&& Q.one i)=x at *
 have hx2:Hid ((x != 0)=((x:Int) != 0)):=by unfold Hid;cases x<;>rfl
 cases hx:((x:Int) != 0)
 all_goals
  go_enter Tryz.func160,Tryz.ntmps160
  go_wp2_with (first | (go_at_call 159;refine (one_any _ _).mono ?_;rintro e w' ⟨rfl,rfl⟩))
  go_ret
  refine⟨?_,rfl⟩
  rw[HE.out,hx2.out,hx]
  first | rfl | simp
set_option maxHeartbeats 400000 in
theorem moved_any (s:Nat) (i:Int) (w:World) (hs:s<Q.M64) :
  Calls Tryz.prog 178 #[.int .u64 (s:Nat),.int .i64 i] w fun e w'=>e=.returned (.int .u64 (Q.moved s i:Nat))∧w'=w:=by
 by_cases h0:i<0
 ·have HE:Hid (Q.moved s i=0):=by unfold Hid Q.moved;rw[if_pos (Or.inl h0)]
  go_enter Tryz.func178,Tryz.ntmps178
  go_wp2
  go_ret
  rw[HE.out];exact⟨rfl,rfl⟩
 by_cases h1:64≤i
 ·have HE:Hid (Q.moved s i=0):=by unfold Hid Q.moved;rw[if_pos (Or.inr h1)]
  go_enter Tryz.func178,Tryz.ntmps178
  go_wp2
  go_ret
  rw[HE.out];exact⟨rfl,rfl⟩
 ·have HE:Hid (IntKind.u64.wrap ((s:Int)*(2:Int) ^ i.toNat)=(Q.moved s i:Nat)):=by
   unfold Hid Q.moved;rw[if_neg (by omega),IntKind.wrap_u64,Int.natCast_emod,Int.natCast_mul,Int.natCast_pow]
   rfl
  go_enter Tryz.func178,Tryz.ntmps178
  go_wp2
  go_ret
  exact⟨by first | (rw[← HE.out];rfl) | (simp;exact HE.out),rfl⟩
def setsA (l:List Nat):Array Value:=(l.map fun x=>Value.int .u64 (x:Nat)).toArray
theorem setsA_get (l:List Nat) (i:Nat) (h:i<l.length):(setsA l)[i]?=some (.int .u64 (l[i]:Nat)):=by simp[setsA,h]
theorem setsA_set (l:List Nat) (i x:Nat):(setsA l).setIfInBounds i (.int .u64 (x:Nat))=setsA (l.set i x):=by
 simp[setsA,List.map_set]
def SetsAt (w:World) (g:Nat) (l:List Nat):Prop:=w.heap[g]?=some (.cells (setsA l) 156 (0,0))
theorem SetsAt.lt {w:World} {g:Nat} {l:List Nat} (h:SetsAt w g l):g<w.heap.size:=(Array.getElem?_eq_some_iff.1 h).1
theorem SetsAt.of_block {w w':World} {g:Nat} {l:List Nat} (h:SetsAt w g l) (e:w'.heap[g]?=w.heap[g]?):SetsAt w' g l:=by unfold SetsAt at *;rw[e];exact h
theorem SetsAt.below {w w':World} {g:Nat} {l:List Nat} (h:SetsAt w g l) (hb:Below w.heap.size w w'):SetsAt w' g l:=h.of_block (hb.block g h.lt)
theorem SetsAt.alloc {w:World} {g:Nat} {l:List Nat} (h:SetsAt w g l) (o:Obj):SetsAt (w.alloc o) g l:=h.of_block (Below.heap_alloc _ _ _ h.lt)
theorem SetsAt.drew {w:World} {g:Nat} {l:List Nat} (h:SetsAt w g l):SetsAt w.drew g l:=h
theorem SetsAt.cell {w:World} {g:Nat} {l:List Nat} (h:SetsAt w g l) (i:Nat) (hi:i<l.length):w.cell? ⟨g,i,none⟩=some (.int .u64 (l[i]:Nat)):=by
 unfold SetsAt at h;simp only[World.cell?,h];exact setsA_get l i hi
theorem SetsAt.cellOf {w:World} {g:Nat} {l:List Nat} (h:SetsAt w g l) (i:Nat) (hi:i<l.length):w.cell? ⟨g,i,none⟩=some (.int .u64 (Q.ofR l (i:Int):Nat)):=by
 rw[Q.ofR_get l i hi];exact h.cell i hi
theorem SetsAt.free {w:World} {g:Nat} {l:List Nat} (h:SetsAt w g l) (i:Nat):w.frozen? ⟨g,i,none⟩=false:=by
 unfold SetsAt at h;simp[World.frozen?,h]
theorem SetsAt.set {w:World} {g:Nat} {l:List Nat} (h:SetsAt w g l) (i x:Nat):SetsAt (w.setCell ⟨g,i,none⟩ (.int .u64 (x:Nat))) g (l.set i x):=by
 unfold SetsAt at *;rw[setCell_block h,setsA_set]
set_option maxHeartbeats 400000 in
theorem of_any (g n:Nat) (l:List Nat) (a:Int) (w:World) (h:SetsAt w g l) (hn:n=l.length) (hl:n≤64) :
  Calls Tryz.prog 115 #[.agg #[.slice (some ⟨g,0,none⟩) n n],.int .i64 a] w fun e w'=>e=.returned (.int .u64 (Q.ofR l a:Nat))∧Below w.heap.size w w':=by
 have hglt:=h.lt
 by_cases h0:a<0
 ·have HE:Hid (Q.ofR l a=0):=Q.ofR_out l a (Or.inl h0)
  clear h
  go_enter Tryz.func115,Tryz.ntmps115
  go_wp2
  go_ret
  rw[HE.out];exact⟨rfl,(Below.refl _ _).alloc (Nat.le_refl _) _⟩
 have hd0:decide (a<0)=false:=by simpa using h0
 by_cases h1:(n:Int)≤a
 ·have HE:Hid (Q.ofR l a=0):=Q.ofR_out l a (Or.inr (by omega))
  clear h
  go_enter Tryz.func115,Tryz.ntmps115
  go_wp2
  go_ret
  rw[HE.out];exact⟨rfl,(Below.refl _ _).alloc (Nat.le_refl _) _⟩
 ·obtain⟨i,rfl⟩:=Int.eq_ofNat_of_zero_le (by omega:0≤a)
  have hi:i<l.length:=by omega
  have c:=h.cellOf i hi
  have hin:(i:Int)<(n:Int):=by omega
  clear h hn
  generalize Q.ofR l (i:Int)=x at *
  go_enter Tryz.func115,Tryz.ntmps115
  go_wp2
  go_ret
  exact⟨rfl,(Below.refl _ _).alloc (Nat.le_refl _) _⟩
set_option maxHeartbeats 400000 in
theorem hasR_any (g n:Nat) (l:List Nat) (a b:Int) (w:World) (h:SetsAt w g l) (hn:n=l.length) (hf:Q.Fits l) :
  Calls Tryz.prog 112 #[.agg #[.slice (some ⟨g,0,none⟩) n n],.int .i64 a,.int .i64 b] w fun e w'=>e=.returned (.bool (Q.hasR l a b))∧Below w.heap.size w w':=by
 have hlen:=hf.len
 have HF:=hide hf
 have HA:=hide (h.alloc (.cells #[.slice (some ⟨g,0,none⟩) n n] 68))
 have HN:=hide hn
 have hglt:=h.lt
 clear hf h hn
 go_enter Tryz.func112,Tryz.ntmps112
 go_wp2_with (first
  | (go_at_call 115;refine (of_any g n l a _ HA.out HN.out (by have:=HN.out;omega)).mono ?_;rintro e w1 ⟨rfl,hb⟩)
  | (go_at_call 160;refine (hasS_any _ _ _ (Q.ofR_lt HF.out a)).mono ?_;rintro e w' ⟨rfl,rfl⟩))
 go_ret
 exact⟨rfl,((Below.refl _ _).alloc (Nat.le_refl _) _).trans (hb.mono (by simp))⟩
end Go.Proofs.YtgceflcbckjjiaaGreatDoor
