/-
  The document's tables, as the calls make them.
-/
import Derived.Test.YtjlencmoobanoaaSim
namespace Go.Proofs.Ytjlencmoobanoaa
open Go Go.RowKit

set_option maxRecDepth 100000 in
theorem refClusters_any (w : World) : Calls Try.prog 27 #[] w fun e w' => e = .returned (.slice (some ⟨w.heap.size, 0, none⟩) (tableOf Try.f27).length (tableOf Try.f27).length) ∧ w' = w.alloc (.cells (cellsT (tableOf Try.f27)).toArray 58) := by
  go_enter Try.func27, Try.ntmps27
  refine simV_wp _ 0 _ _ (w.alloc (.cells (cellsT (tableOf Try.f27)).toArray 58)) (.slice (some ⟨w.heap.size, 0, none⟩) (tableOf Try.f27).length (tableOf Try.f27).length) rfl (by kernel_rfl) ⟨rfl, rfl⟩

end Go.Proofs.Ytjlencmoobanoaa
