/-
  The document's tables, as the calls make them.
-/
import Derived.Test.YtdbimchiecdkoaaGreatSim
namespace Go.Proofs.YtdbimchiecdkoaaGreat
open Go Go.RowKit
set_option maxRecDepth 100000 in
theorem refBreaks_any (w : World) : Calls Tryz.prog 21 #[] w fun e w' => e = .returned (.slice (some ⟨w.heap.size, 0, none⟩) (tableOf Tryz.f21).length (tableOf Tryz.f21).length) ∧ w' = w.alloc (.cells (cellsT (tableOf Tryz.f21)).toArray 67) := by
  go_enter Tryz.func21, Tryz.ntmps21
  refine simV_wp _ 0 _ _ (w.alloc (.cells (cellsT (tableOf Tryz.f21)).toArray 67)) (.slice (some ⟨w.heap.size, 0, none⟩) (tableOf Tryz.f21).length (tableOf Tryz.f21).length) rfl (by kernel_rfl) ⟨rfl, rfl⟩
set_option maxRecDepth 100000 in
theorem refWides_any (w : World) : Calls Tryz.prog 91 #[] w fun e w' => e = .returned (.slice (some ⟨w.heap.size, 0, none⟩) (tableOf Tryz.f91).length (tableOf Tryz.f91).length) ∧ w' = w.alloc (.cells (cellsT (tableOf Tryz.f91)).toArray 67) := by
  go_enter Tryz.func91, Tryz.ntmps91
  refine simV_wp _ 0 _ _ (w.alloc (.cells (cellsT (tableOf Tryz.f91)).toArray 67)) (.slice (some ⟨w.heap.size, 0, none⟩) (tableOf Tryz.f91).length (tableOf Tryz.f91).length) rfl (by kernel_rfl) ⟨rfl, rfl⟩
end Go.Proofs.YtdbimchiecdkoaaGreat
