import Derived.Test.YtgceflcbckjjiaaGreatDoorB34
import Derived.Test.YtgceflcbckjjiaaGreatDoorB43
set_option linter.unusedVariables false
set_option linter.unusedSimpArgs false
namespace Go.Proofs.YtgceflcbckjjiaaGreatDoor
open Go Go.RowKit
set_option maxRecDepth 100000
namespace P
end P
theorem kernel_any (s:ByteArray) (w:World) (hs:s.size≤8192) :
  Calls Tryz.prog 23 #[.string s] w fun e w'=>∃ tv,e=.returned (.tuple #[.agg #[tv],.int .i64 (P.kernel s.toList).2.1,.int .i64 (P.kernel s.toList).2.2])∧(∃ a m c,tv=.slice a m c) ∧
   ((P.kernel s.toList).2.1=0→∃ bt tc,tv=.slice (some ⟨bt,0,none⟩) (P.kernel s.toList).1.length tc∧ThreadsAt w' w.heap.size tv (P.kernel s.toList).1∧(P.kernel s.toList).1.length≤4∧(∀ t∈(P.kernel s.toList).1,t.stmts.length<3000)∧∀ t∈(P.kernel s.toList).1,0≤t.block∧t.block<100∧∀ x∈t.stmts,P.Small x)∧Below w.heap.size w w':=by
 unfold P.kernel
 rw[size_toList]
 by_cases h1:2000<s.size
 ·rw[if_pos h1]
  refine (kernel_long s w hs h1).mono ?_
  rintro e w' ⟨rfl,hb⟩
  exact⟨_,rfl,⟨_,_,_,rfl⟩,fun h=>by simp at h,hb⟩
 rw[if_neg h1]
 cases h2:((P.lines s.toList).2 != 0)
 rotate_left
 ·refine (kernel_line2 s w hs (by omega) h2).mono ?_
  rintro e w' ⟨rfl,hb⟩
  exact⟨_,rfl,⟨_,_,_,rfl⟩,fun h=>by simp at h,hb⟩
 simp only[Bool.false_eq_true,if_false]
 cases h3:(P.innerB (P.lines s.toList).1 != 0)
 rotate_left
 ·refine (kernel_inner s w hs (by omega) h2 h3).mono ?_
  rintro e w' ⟨rfl,hb⟩
  exact⟨_,rfl,⟨_,_,_,rfl⟩,fun h=>by simp at h,hb⟩
 simp only[Bool.false_eq_true,if_false]
 cases h4:(P.unevenIn (P.lines s.toList).1 (P.lines s.toList).1 != 0)
 rotate_left
 ·refine (kernel_uneven s w hs (by omega) h2 h3 h4).mono ?_
  rintro e w' ⟨rfl,hb⟩
  exact⟨_,rfl,⟨_,_,_,rfl⟩,fun h=>by simp at h,hb⟩
 simp only[Bool.false_eq_true,if_false]
 cases h5:P.over (P.lines s.toList).1
 rotate_left
 ·refine (kernel_over s w hs (by omega) h2 h3 h4 h5).mono ?_
  rintro e w' ⟨rfl,hb⟩
  exact⟨_,rfl,⟨_,_,_,rfl⟩,fun h=>by simp at h,hb⟩
 ·refine (kernel_ok s w hs (by omega) h2 h3 h4 h5).mono ?_
  rintro e w' ⟨bt,tc,rfl,hth,hb⟩
  obtain⟨_,k2,k3⟩:=P.lines_ok s.toList (by simpa using h2)
  exact⟨_,rfl,⟨_,_,_,rfl⟩,fun _=>⟨bt,tc,rfl,hth,k2,fun t ht=>by have:=k3 t ht;rw[size_toList] at this;omega,P.lines_small s.toList⟩,hb⟩
end Go.Proofs.YtgceflcbckjjiaaGreatDoor
