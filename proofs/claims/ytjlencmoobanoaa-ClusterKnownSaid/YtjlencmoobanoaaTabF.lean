/-
  The document's tables are those of its functions.
-/
import Derived.Test.YtjlencmoobanoaaTabs
import Derived.Test.YtjlencmoobanoaaRefU
namespace Go.Proofs.Ytjlencmoobanoaa
open Go Go.RowKit

theorem lenClusters : (tableOf Try.f27).length ≤ 100000 := of_decide_eq_true (by kernel_rfl)
theorem tabClusters : TabF 27 (tableOf Try.f27) := ⟨fun w => refClusters_any w, lenClusters⟩

end Go.Proofs.Ytjlencmoobanoaa
