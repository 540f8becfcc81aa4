/-
  The document's tables are those of its functions.
-/
import Derived.Test.YtjpdhfolfmamcaaDoorTabs
import Derived.Test.YtjpdhfolfmamcaaDoorRefU
namespace Go.Proofs.YtjpdhfolfmamcaaDoor
open Go Go.RowKit

theorem lenClasses : (tableOf Tryd.f33).length ≤ 100000 := of_decide_eq_true (by kernel_rfl)
theorem tabClasses : TabF 33 (tableOf Tryd.f33) := ⟨fun w => refClasses_any w, lenClasses⟩

theorem lenJoinings : (tableOf Tryd.f27).length ≤ 100000 := of_decide_eq_true (by kernel_rfl)
theorem tabJoinings : TabF 27 (tableOf Tryd.f27) := ⟨fun w => refJoinings_any w, lenJoinings⟩

theorem lenBreaks : (tableOf Tryd.f28).length ≤ 100000 := of_decide_eq_true (by kernel_rfl)
theorem tabBreaks : TabF 28 (tableOf Tryd.f28) := ⟨fun w => refBreaks_any w, lenBreaks⟩

theorem lenClusters : (tableOf Tryd.f29).length ≤ 100000 := of_decide_eq_true (by kernel_rfl)
theorem tabClusters : TabF 29 (tableOf Tryd.f29) := ⟨fun w => refClusters_any w, lenClusters⟩

theorem lenScripts : (tableOf Tryd.f30).length ≤ 100000 := of_decide_eq_true (by kernel_rfl)
theorem tabScripts : TabF 30 (tableOf Tryd.f30) := ⟨fun w => refScripts_any w, lenScripts⟩

theorem lenWides : (tableOf Tryd.f31).length ≤ 100000 := of_decide_eq_true (by kernel_rfl)
theorem tabWides : TabF 31 (tableOf Tryd.f31) := ⟨fun w => refWides_any w, lenWides⟩

theorem lenSpaces : (tableOf Tryd.f32).length ≤ 100000 := of_decide_eq_true (by kernel_rfl)
theorem tabSpaces : TabF 32 (tableOf Tryd.f32) := ⟨fun w => refSpaces_any w, lenSpaces⟩
end Go.Proofs.YtjpdhfolfmamcaaDoor
