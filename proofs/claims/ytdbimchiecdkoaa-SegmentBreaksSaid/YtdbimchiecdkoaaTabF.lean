/-
  The document's tables are those of its functions.
-/
import Derived.Test.YtdbimchiecdkoaaTabs
import Derived.Test.YtdbimchiecdkoaaRefU
namespace Go.Proofs.Ytdbimchiecdkoaa
open Go Go.RowKit
theorem lenBreaks : (tableOf Try.f28).length ≤ 100000 := of_decide_eq_true (by kernel_rfl)
theorem tabBreaks : TabF 28 (tableOf Try.f28) := ⟨fun w => refBreaks_any w, lenBreaks⟩
theorem lenWides : (tableOf Try.f86).length ≤ 100000 := of_decide_eq_true (by kernel_rfl)
theorem tabWides : TabF 86 (tableOf Try.f86) := ⟨fun w => refWides_any w, lenWides⟩
end Go.Proofs.Ytdbimchiecdkoaa
