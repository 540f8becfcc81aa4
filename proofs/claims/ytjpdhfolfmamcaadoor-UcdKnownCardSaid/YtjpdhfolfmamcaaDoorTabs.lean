/-
  The document's tables, as the calls make them.
-/
import Derived.Test.YtjpdhfolfmamcaaDoorSim
namespace Go.Proofs.YtjpdhfolfmamcaaDoor
open Go Go.RowKit

set_option maxRecDepth 100000 in
theorem refClasses_any (w : World) : Calls Tryd.prog 33 #[] w fun e w' => e = .returned (.slice (some ⟨w.heap.size, 0, none⟩) (tableOf Tryd.f33).length (tableOf Tryd.f33).length) ∧ w' = w.alloc (.cells (cellsT (tableOf Tryd.f33)).toArray 25) := by
  go_enter Tryd.func33, Tryd.ntmps33
  refine simV_wp _ 0 _ _ (w.alloc (.cells (cellsT (tableOf Tryd.f33)).toArray 25)) (.slice (some ⟨w.heap.size, 0, none⟩) (tableOf Tryd.f33).length (tableOf Tryd.f33).length) rfl (by kernel_rfl) ⟨rfl, rfl⟩

set_option maxRecDepth 100000 in
theorem refJoinings_any (w : World) : Calls Tryd.prog 27 #[] w fun e w' => e = .returned (.slice (some ⟨w.heap.size, 0, none⟩) (tableOf Tryd.f27).length (tableOf Tryd.f27).length) ∧ w' = w.alloc (.cells (cellsT (tableOf Tryd.f27)).toArray 25) := by
  go_enter Tryd.func27, Tryd.ntmps27
  refine simV_wp _ 0 _ _ (w.alloc (.cells (cellsT (tableOf Tryd.f27)).toArray 25)) (.slice (some ⟨w.heap.size, 0, none⟩) (tableOf Tryd.f27).length (tableOf Tryd.f27).length) rfl (by kernel_rfl) ⟨rfl, rfl⟩

set_option maxRecDepth 100000 in
theorem refBreaks_any (w : World) : Calls Tryd.prog 28 #[] w fun e w' => e = .returned (.slice (some ⟨w.heap.size, 0, none⟩) (tableOf Tryd.f28).length (tableOf Tryd.f28).length) ∧ w' = w.alloc (.cells (cellsT (tableOf Tryd.f28)).toArray 25) := by
  go_enter Tryd.func28, Tryd.ntmps28
  refine simV_wp _ 0 _ _ (w.alloc (.cells (cellsT (tableOf Tryd.f28)).toArray 25)) (.slice (some ⟨w.heap.size, 0, none⟩) (tableOf Tryd.f28).length (tableOf Tryd.f28).length) rfl (by kernel_rfl) ⟨rfl, rfl⟩

set_option maxRecDepth 100000 in
theorem refClusters_any (w : World) : Calls Tryd.prog 29 #[] w fun e w' => e = .returned (.slice (some ⟨w.heap.size, 0, none⟩) (tableOf Tryd.f29).length (tableOf Tryd.f29).length) ∧ w' = w.alloc (.cells (cellsT (tableOf Tryd.f29)).toArray 25) := by
  go_enter Tryd.func29, Tryd.ntmps29
  refine simV_wp _ 0 _ _ (w.alloc (.cells (cellsT (tableOf Tryd.f29)).toArray 25)) (.slice (some ⟨w.heap.size, 0, none⟩) (tableOf Tryd.f29).length (tableOf Tryd.f29).length) rfl (by kernel_rfl) ⟨rfl, rfl⟩

set_option maxRecDepth 100000 in
theorem refScripts_any (w : World) : Calls Tryd.prog 30 #[] w fun e w' => e = .returned (.slice (some ⟨w.heap.size, 0, none⟩) (tableOf Tryd.f30).length (tableOf Tryd.f30).length) ∧ w' = w.alloc (.cells (cellsT (tableOf Tryd.f30)).toArray 25) := by
  go_enter Tryd.func30, Tryd.ntmps30
  refine simV_wp _ 0 _ _ (w.alloc (.cells (cellsT (tableOf Tryd.f30)).toArray 25)) (.slice (some ⟨w.heap.size, 0, none⟩) (tableOf Tryd.f30).length (tableOf Tryd.f30).length) rfl (by kernel_rfl) ⟨rfl, rfl⟩

set_option maxRecDepth 100000 in
theorem refWides_any (w : World) : Calls Tryd.prog 31 #[] w fun e w' => e = .returned (.slice (some ⟨w.heap.size, 0, none⟩) (tableOf Tryd.f31).length (tableOf Tryd.f31).length) ∧ w' = w.alloc (.cells (cellsT (tableOf Tryd.f31)).toArray 25) := by
  go_enter Tryd.func31, Tryd.ntmps31
  refine simV_wp _ 0 _ _ (w.alloc (.cells (cellsT (tableOf Tryd.f31)).toArray 25)) (.slice (some ⟨w.heap.size, 0, none⟩) (tableOf Tryd.f31).length (tableOf Tryd.f31).length) rfl (by kernel_rfl) ⟨rfl, rfl⟩

set_option maxRecDepth 100000 in
theorem refSpaces_any (w : World) : Calls Tryd.prog 32 #[] w fun e w' => e = .returned (.slice (some ⟨w.heap.size, 0, none⟩) (tableOf Tryd.f32).length (tableOf Tryd.f32).length) ∧ w' = w.alloc (.cells (cellsT (tableOf Tryd.f32)).toArray 25) := by
  go_enter Tryd.func32, Tryd.ntmps32
  refine simV_wp _ 0 _ _ (w.alloc (.cells (cellsT (tableOf Tryd.f32)).toArray 25)) (.slice (some ⟨w.heap.size, 0, none⟩) (tableOf Tryd.f32).length (tableOf Tryd.f32).length) rfl (by kernel_rfl) ⟨rfl, rfl⟩
end Go.Proofs.YtjpdhfolfmamcaaDoor
