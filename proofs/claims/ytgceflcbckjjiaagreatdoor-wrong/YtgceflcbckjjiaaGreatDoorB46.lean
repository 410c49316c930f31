import Derived.Test.YtgceflcbckjjiaaGreatDoorB33
import Derived.Test.YtgceflcbckjjiaaGreatDoorB45
set_option linter.unusedVariables false
set_option linter.unusedSimpArgs false
namespace Go.Proofs.YtgceflcbckjjiaaGreatDoor
open Go Go.RowKit
set_option maxRecDepth 100000
set_option maxHeartbeats 3200000 in
theorem readA_line (s:ByteArray) (w:World) (h:s.size≤2000) (hfew:(P.splitAt 10 s.toList).length≤99) (hl:((P.linesA s.toList).2 != 0)=true) :
  Calls Tryz.prog 28 #[.string s] w fun e w'=>e=.returned (.tuple #[.agg #[.slice none 0 0],.int .i64 2,.int .i64 (P.linesA s.toList).2])∧Below w.heap.size w w':=by
 have h':¬ (2000:Int)<(s.size:Int):=by omega
 have hs:s.size≤8192:=by omega
 go_enter Tryz.func28,Tryz.ntmps28
 go_wp2_with (first | (go_at_call 46;refine (linesA_any s _ hs hfew).mono ?_;rintro e w1 ⟨tv,rfl,hth,hb1⟩;obtain⟨ta,tc,rfl,hta⟩:=hth.form;have hsz1:w.heap.size+1≤w1.heap.size:=(by have:=hb1.size;simp at this;omega);have hres:w1.heap[w.heap.size]?=some (.cells #[.slice none 0 0] 48 (0,0)):=(by rw[hb1.block _ (by simp)];exact heap_alloc_new w _);obtain⟨z0,z1,z2⟩:=one_cell hres;have HRES:=hide hres;have HTH:=hide hth;have HB1:Hid (Below w.heap.size w w1):=((Below.refl _ _).alloc (Nat.le_refl _) _).trans (hb1.mono (by simp));clear hres hth hb1))
 refine ret_prog3 (p:=2) (u:=3) (v:=4) w.heap.size (.slice none 0 0) _ _ (by kernel_rfl) rfl rfl rfl ?_ rfl ⟨rfl,?_⟩
 ·rw[Below.heap_alloc _ _ _ (by simp;omega)]
  exact setCell_block HRES.out 0 _
 ·exact (HB1.out.setCell (Nat.le_refl _) _).alloc (by simp;omega) _
theorem results_tmp4 {fn:Func} {p q u v:Tmp} (h:fn.results=#[.tmp p,.tmp q,.tmp u,.tmp v]) (tmps:Array Value) (Pg:Program) (w:World) :
  (results fn tmps).run Pg w=.ok (.tuple #[tmps.getD p undef,tmps.getD q undef,tmps.getD u undef,tmps.getD v undef]) w:=by
 simp only[results,h]
 simp[Sem.run_bind,Result.andThen]
set_option maxHeartbeats 3200000 in
theorem target_line (s:ByteArray) (w:World) (h:s.size≤2000) (hfew:(P.splitAt 10 s.toList).length≤99) (hl:((P.linesA s.toList).2 != 0)=true) :
  Calls Tryz.prog 20 #[.string s] w fun e w'=>e=.returned (.tuple #[.slice none 0 0,.bool false,.int .i64 2,.int .i64 (P.linesA s.toList).2])∧Below w.heap.size w w':=by
 go_enter Tryz.func20,Tryz.ntmps20
 go_wp2_with (first | (go_at_call 28;refine (readA_line s _ h hfew hl).mono ?_;rintro e w1 ⟨rfl,hb1⟩))
 refine bodyPost_ret (results_tmp4 rfl _ _ _) rfl ⟨rfl,?_⟩
 exact hb1.alloc hb1.size _
set_option maxHeartbeats 3200000 in
theorem source_fault (s:ByteArray) (w:World) (h:s.size≤8192) (hf:((P.kernel s.toList).2.1 != 0)=true) :
  Calls Tryz.prog 14 #[.string s] w fun e w'=>e=.returned (.tuple #[.slice none 0 0,.bool false,.int .i64 (P.kernel s.toList).2.1,.int .i64 (P.kernel s.toList).2.2])∧Below w.heap.size w w':=by
 go_enter Tryz.func14,Tryz.ntmps14
 go_wp2_with (first | (go_at_call 23;refine (kernel_any s _ h).mono ?_;rintro e w1 ⟨tv,rfl,⟨ta,tm,tc,rfl⟩,_,hb1⟩))
 refine bodyPost_ret (results_tmp4 rfl _ _ _) rfl ⟨rfl,?_⟩
 exact hb1.alloc hb1.size _
namespace P
def wrongs:List (List UInt8 × Int × Int):=[
 ([],2,1),
 ([116,104,114,101,97,100,32,48],2,1),
 ([116,104,114,101,97,100,32,50,10],2,1),
 ([98,97,114,114,105,101,114,10],2,1),
 ([116,104,114,101,97,100,32,48,10,115,116,111,114,101,32,119,32,49,32,119,101,97,107,10],2,2),
 ([116,104,114,101,97,100,32,48,10,115,116,111,114,101,32,120,32,52,32,119,101,97,107,10],2,2),
 ([116,104,114,101,97,100,32,48,10,115,116,111,114,101,32,120,32,49,32,97,99,113,117,105,114,101,32,98,108,111,99,107,10],2,2),
 ([116,104,114,101,97,100,32,48,10,115,116,111,114,101,32,120,32,49,32,119,101,97,107,32,98,108,111,99,107,10],2,2),
 ([116,104,114,101,97,100,32,48,10,114,48,32,61,32,108,111,97,100,32,120,32,114,101,108,101,97,115,101,32,98,108,111,99,107,10],2,2),
 ([116,104,114,101,97,100,32,48,10,114,48,32,61,32,97,100,100,32,120,32,49,32,119,101,97,107,10],2,2),
 ([116,104,114,101,97,100,32,48,10,102,101,110,99,101,32,114,101,108,97,120,101,100,32,98,108,111,99,107,10],2,2),
 ([116,104,114,101,97,100,32,48,10,114,52,32,61,32,49,10],2,2),
 ([116,104,114,101,97,100,32,48,10,114,48,32,61,32,49,32,42,32,50,10],2,2),
 ([116,104,114,101,97,100,32,48,10,105,102,32,114,48,10],2,3),
 ([116,104,114,101,97,100,32,48,10,101,110,100,10],2,2),
 ([116,104,114,101,97,100,32,48,10,105,102,32,114,48,10,98,97,114,114,105,101,114,10,101,110,100,10],3,3),
 ([116,104,114,101,97,100,32,48,10,98,97,114,114,105,101,114,10,116,104,114,101,97,100,32,48,10],3,3),
 ([116,104,114,101,97,100,32,48,10,98,97,114,114,105,101,114,10,98,97,114,114,105,101,114,10,98,97,114,114,105,101,114,10],3,1),
 ([116,104,114,101,97,100,32,48,10,115,116,111,114,101,32,120,32,49,32,119,101,97,107,10,115,116,111,114,101,32,120,32,49,32,119,101,97,107,10,115,116,111,114,101,32,120,32,49,32,119,101,97,107,10,115,116,111,114,101,32,120,32,49,32,119,101,97,107,10],4,0),
 ([116,104,114,101,97,100,32,48,10,114,48,32,61,32,108,111,97,100,32,120,32,119,101,97,107,10,114,48,32,61,32,108,111,97,100,32,120,32,119,101,97,107,10,114,48,32,61,32,108,111,97,100,32,120,32,119,101,97,107,10,114,48,32,61,32,108,111,97,100,32,120,32,119,101,97,107,10,114,48,32,61,32,108,111,97,100,32,120,32,119,101,97,107,10],4,0),
 ([116,104,114,101,97,100,32,48,10,102,101,110,99,101,32,115,99,32,98,108,111,99,107,10,102,101,110,99,101,32,115,99,32,98,108,111,99,107,10,102,101,110,99,101,32,115,99,32,98,108,111,99,107,10,102,101,110,99,101,32,115,99,32,98,108,111,99,107,10],4,0),
 ([116,104,114,101,97,100,32,48,10,116,104,114,101,97,100,32,48,10,116,104,114,101,97,100,32,48,10,116,104,114,101,97,100,32,48,10,116,104,114,101,97,100,32,48,10],2,5),
 ([116,104,114,101,97,100,32,48,10,105,102,32,114,48,10,105,102,32,114,48,10,105,102,32,114,48,10,101,110,100,10,101,110,100,10,101,110,100,10],2,4),
 ([116,104,114,101,97,100,32,48,10,114,48,32,61,32,49,10,114,48,32,61,32,49,10,114,48,32,61,32,49,10,114,48,32,61,32,49,10,114,48,32,61,32,49,10,114,48,32,61,32,49,10,114,48,32,61,32,49,10,114,48,32,61,32,49,10,114,48,32,61,32,49,10],2,10)]
def wrongOk (x:List UInt8 × Int × Int):Bool:=(kernel x.1).2==x.2&&x.2.1 != 0&&(linesA x.1).2==1&&decide (x.1.length≤2000)&&decide ((splitAt 10 x.1).length≤99)
theorem wrongs_ok:wrongs.all wrongOk=true:=by decide +kernel
end P
end Go.Proofs.YtgceflcbckjjiaaGreatDoor
