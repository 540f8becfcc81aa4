/-
  The works of GsubRight.
-/
import Derived.Test.YtgjlpiljacecpaaM5
import Derived.Test.YtgjlpiljacecpaaHE
import Derived.Test.YtgjlpiljacecpaaKB
namespace Go.Proofs.Ytgjlpiljacecpaa
open Go Go.RowKit
theorem works7_t : fWorks7 200000001 = some true := by kernel_rfl
end Go.Proofs.Ytgjlpiljacecpaa
