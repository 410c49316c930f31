import Derived.Test.YtpkjmdcabdplfaaGreatDoorA07
set_option linter.unusedVariables false
set_option linter.unusedSimpArgs false
namespace Go.Proofs.YtpkjmdcabdplfaaGreatDoor
open Go Go.RowKit
set_option maxRecDepth 100000

set_option maxHeartbeats 3200000 in
theorem put_walk (B g bt n capT : Nat) (st : P.Stm) (sv : Value) (m : Nat) (xs : List Value) (w : World) (hg : w.cell? ⟨g, 0, none⟩ = some (.slice (some ⟨bt, 0, none⟩) (n + 1) capT))
   (hn : n < 5) (hm : m < 10000) (hc : w.cell? ⟨bt, n * 3 + 2, none⟩ = some sv) (hf : w.frozen? ⟨bt, n * 3 + 2, none⟩ = false)
   (hown : w.ownsRow B 80 11 sv m xs) (hne : some bt ≠ sv.ownBlock) (hneg : some g ≠ sv.ownBlock) (hB : B ≤ w.heap.size) (hglt : g < w.heap.size) (hblt : bt < w.heap.size) (Q : Ending → World → Prop)
   (hQ : ∀ g1 cap1 w1, w1.ownsRow B 80 11 (.slice (some ⟨g1, 0, none⟩) (m + 1) cap1) (m + 1) (xs ++ (stmCells st).toList) → ((w.alloc (.cells (stmCells st) 80)).drew.alloc (.cells (stmCells st) 80)).grownBy w1 sv.ownBlock → (sv.ownBlock = some g1 ∨ g1 = w.heap.size + 2) →
      Q (.returned (.tuple #[])) (w1.setCell ⟨bt, n * 3 + 2, none⟩ (.slice (some ⟨g1, 0, none⟩) (m + 1) cap1))) :
    Calls Tryz.prog 88 #[.pointer (some ⟨g, 0, none⟩), .agg (stmCells st)] w Q := by
  obtain ⟨i0, hi, hz0, hz1, hz2⟩ := info_parts Tryz.infoStm
  have hown2 : ((w.alloc (.cells (stmCells st) 80)).drew.alloc (.cells (stmCells st) 80)).ownsRow B 80 11 sv m xs := ((hown.alloc _).drew).alloc _
  have HO := hide hown2
  have hnews : ∀ j u, (stmCells st).toList[j]? = some u → ((w.alloc (.cells (stmCells st) 80)).drew.alloc (.cells (stmCells st) 80)).cell? ((⟨w.heap.size + 1, 0, none⟩ : Addr).add j) = some u := World.news_of_block (t := 80) (fr := (0, 0)) (by have := heap_alloc_new (w.alloc (.cells (stmCells st) 80)).drew (.cells (stmCells st) 80); simpa using this)
  have HN := hide hnews
  have eb : ∀ k, k < w.heap.size → ((w.alloc (.cells (stmCells st) 80)).drew.alloc (.cells (stmCells st) 80)).heap[k]? = w.heap[k]? := fun k hk => by
    rw [Below.heap_alloc _ _ _ (by simp; omega)]
    exact Below.heap_alloc _ _ _ hk
  have HC : Hid (((w.alloc (.cells (stmCells st) 80)).drew.alloc (.cells (stmCells st) 80)).cell? ⟨bt, n * 3 + 2, none⟩ = some sv) := (World.cell?_of_block (w := w) (eb bt hblt)).trans hc
  have HF : Hid (((w.alloc (.cells (stmCells st) 80)).drew.alloc (.cells (stmCells st) 80)).frozen? ⟨bt, n * 3 + 2, none⟩ = false) := (World.frozen?_of_block (w := w) (eb bt hblt)).trans hf
  have HG : Hid (((w.alloc (.cells (stmCells st) 80)).drew.alloc (.cells (stmCells st) 80)).cell? ⟨g, 0, none⟩ = some (.slice (some ⟨bt, 0, none⟩) (n + 1) capT)) := (World.cell?_of_block (w := w) (eb g hglt)).trans hg
  have HQ := hide hQ
  clear hown2 hnews eb hQ hown
  have hin : ((n : Int) < (n : Int) + 1) := by omega
  have hn0 : (0 : Int) ≤ (n : Int) := by omega
  simp only [stmCells]
  go_enter Tryz.func88, Tryz.ntmps88
  go_wp2_with fail
  go_region_law (refine step_append_lies _ rfl (.tmp 25) (.tmp 27) 71 rfl B 80 i0 (.agg (stmCells P.Stm.zero)) 11 88 Tryz.underlying71 hi hz0 hz1 hz2 rfl (by decide) sv m xs (by simp [Act.eval]) (by exact HO.out) ⟨w.heap.size + 1, 0, none⟩ 1 1 (stmCells st).toList (by simp [Act.eval]) rfl (by exact HN.out) (by simp [stmCells, Value.oneCell']) (by decide) (by unfold maxLen; omega) (by omega) (by simp; omega) (w.heap.size + 2) (by simp) ?_; intro g1 cap1 w1 hown1 hgrow hat hlt1; have c1 := (hgrow.cell_far ⟨bt, n * 3 + 2, none⟩ (by simp; omega) hne).trans HC.out; have f1 := (hgrow.frozen_far ⟨bt, n * 3 + 2, none⟩ (by simp; omega) hne).trans HF.out; have d1 := (hgrow.cell_far ⟨g, 0, none⟩ (by simp; omega) hneg).trans HG.out)
  all_goals go_end0
  all_goals exact HQ.out _ _ _ hown1 hgrow hat
end Go.Proofs.YtpkjmdcabdplfaaGreatDoor
