/-
  CoverFeatures, called.
-/
import Derived.Test.YtcleaepcjbfmhaaLt
namespace Go.Proofs.Ytcleaepcjbfmhaa
open Go Go.RowKit
theorem feat_calls (W : World) (a : List Int) (ha : U8 a) {A : Option Addr} {c : Nat} (hr : Vw [] .u8 W A c a) (p g : Int) :
    Calls Try.prog 3 #[.slice A a.length c, .int .i64 p, .int .i64 g] W fun e W' => e = .returned (.bool true) ∧ Below W.heap.size W W' := by
  obtain ⟨N, hN⟩ := fCov_true a p g ha
  refine (fCov_ok N a p g A c true hN W hr).mono ?_
  rintro e w ⟨v, rfl, rfl, h⟩
  exact ⟨rfl, h.below⟩
end Go.Proofs.Ytcleaepcjbfmhaa
