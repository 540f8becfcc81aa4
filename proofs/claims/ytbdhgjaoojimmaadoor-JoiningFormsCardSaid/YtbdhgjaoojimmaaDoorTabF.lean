/-
  The document's tables are those of its functions.
-/
import Derived.Test.YtbdhgjaoojimmaaDoorTabs
import Derived.Test.YtbdhgjaoojimmaaDoorRefU
namespace Go.Proofs.YtbdhgjaoojimmaaDoor
open Go Go.RowKit

theorem lenJoinings : (tableOf Tryd.f24).length ≤ 100000 := of_decide_eq_true (by kernel_rfl)
theorem tabJoinings : TabF 24 (tableOf Tryd.f24) := ⟨fun w => refJoinings_any w, lenJoinings⟩

end Go.Proofs.YtbdhgjaoojimmaaDoor
