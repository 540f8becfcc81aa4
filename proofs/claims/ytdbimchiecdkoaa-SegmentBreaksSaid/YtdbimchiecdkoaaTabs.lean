/-
  The document's tables, as the calls make them.
-/
import Derived.Test.YtdbimchiecdkoaaSim
namespace Go.Proofs.Ytdbimchiecdkoaa
open Go Go.RowKit
set_option maxRecDepth 100000 in
theorem refBreaks_any (w : World) : Calls Try.prog 28 #[] w fun e w' => e = .returned (.slice (some ⟨w.heap.size, 0, none⟩) (tableOf Try.f28).length (tableOf Try.f28).length) ∧ w' = w.alloc (.cells (cellsT (tableOf Try.f28)).toArray 70) := by
  go_enter Try.func28, Try.ntmps28
  refine simV_wp _ 0 _ _ (w.alloc (.cells (cellsT (tableOf Try.f28)).toArray 70)) (.slice (some ⟨w.heap.size, 0, none⟩) (tableOf Try.f28).length (tableOf Try.f28).length) rfl (by kernel_rfl) ⟨rfl, rfl⟩
set_option maxRecDepth 100000 in
theorem refWides_any (w : World) : Calls Try.prog 86 #[] w fun e w' => e = .returned (.slice (some ⟨w.heap.size, 0, none⟩) (tableOf Try.f86).length (tableOf Try.f86).length) ∧ w' = w.alloc (.cells (cellsT (tableOf Try.f86)).toArray 70) := by
  go_enter Try.func86, Try.ntmps86
  refine simV_wp _ 0 _ _ (w.alloc (.cells (cellsT (tableOf Try.f86)).toArray 70)) (.slice (some ⟨w.heap.size, 0, none⟩) (tableOf Try.f86).length (tableOf Try.f86).length) rfl (by kernel_rfl) ⟨rfl, rfl⟩
end Go.Proofs.Ytdbimchiecdkoaa
