/-
  The document's tables are those of its functions.
-/
import Derived.Test.YtdbimchiecdkoaaGreatTabs
import Derived.Test.YtdbimchiecdkoaaGreatRefU
namespace Go.Proofs.YtdbimchiecdkoaaGreat
open Go Go.RowKit
theorem lenBreaks : (tableOf Tryz.f21).length ≤ 100000 := of_decide_eq_true (by kernel_rfl)
theorem tabBreaks : TabF 21 (tableOf Tryz.f21) := ⟨fun w => refBreaks_any w, lenBreaks⟩
theorem lenWides : (tableOf Tryz.f91).length ≤ 100000 := of_decide_eq_true (by kernel_rfl)
theorem tabWides : TabF 91 (tableOf Tryz.f91) := ⟨fun w => refWides_any w, lenWides⟩
end Go.Proofs.YtdbimchiecdkoaaGreat
