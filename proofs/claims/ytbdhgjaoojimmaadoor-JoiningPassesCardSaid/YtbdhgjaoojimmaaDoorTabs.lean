/-
  The document's tables, as the calls make them.
-/
import Derived.Test.YtbdhgjaoojimmaaDoorSim
namespace Go.Proofs.YtbdhgjaoojimmaaDoor
open Go Go.RowKit

set_option maxRecDepth 100000 in
theorem refJoinings_any (w : World) : Calls Tryd.prog 24 #[] w fun e w' => e = .returned (.slice (some ⟨w.heap.size, 0, none⟩) (tableOf Tryd.f24).length (tableOf Tryd.f24).length) ∧ w' = w.alloc (.cells (cellsT (tableOf Tryd.f24)).toArray 49) := by
  go_enter Tryd.func24, Tryd.ntmps24
  refine simV_wp _ 0 _ _ (w.alloc (.cells (cellsT (tableOf Tryd.f24)).toArray 49)) (.slice (some ⟨w.heap.size, 0, none⟩) (tableOf Tryd.f24).length (tableOf Tryd.f24).length) rfl (by kernel_rfl) ⟨rfl, rfl⟩

end Go.Proofs.YtbdhgjaoojimmaaDoor
