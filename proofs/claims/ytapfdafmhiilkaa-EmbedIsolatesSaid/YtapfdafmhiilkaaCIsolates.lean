/-
  EmbedIsolates, called.
-/
import Derived.Test.YtapfdafmhiilkaaE9
namespace Go.Proofs.Ytapfdafmhiilkaa
open Go Go.RowKit
set_option linter.unusedVariables false
theorem callIsolates (W : World) (x0 : List Int) (u0 : ∀ x ∈ x0, 0 ≤ x ∧ x ≤ 255) (A0 : Option Addr) (c0 : Nat) (hv0 : Vw [] .u8 W A0 c0 x0) (x1 : List Int) (u1 : ∀ x ∈ x1, 0 ≤ x ∧ x ≤ 255) (A1 : Option Addr) (c1 : Nat) (hv1 : Vw [] .u8 W A1 c1 x1) (x2 : List Int) (u2 : ∀ x ∈ x2, 0 ≤ x ∧ x ≤ 255) (A2 : Option Addr) (c2 : Nat) (hv2 : Vw [] .u8 W A2 c2 x2) (x3 : List Int) (u3 : ∀ x ∈ x3, 0 ≤ x ∧ x ≤ 255) (A3 : Option Addr) (c3 : Nat) (hv3 : Vw [] .u8 W A3 c3 x3) (x4 : Bool) (x5 : Int) (u5 : 0 ≤ x5 ∧ x5 ≤ 255) : Calls Try.prog 5 #[.slice A0 x0.length c0, .slice A1 x1.length c1, .slice A2 x2.length c2, .slice A3 x3.length c3, .bool x4, .int .u8 x5] W fun e w => e = .returned (.bool true) ∧ Below W.heap.size W w := by
  obtain ⟨N, hN⟩ := fIsolates_true x0 x1 x2 x3 x4 x5 u5
  refine (fIsolates_ok N x0 x1 x2 x3 x4 x5 A0 c0 A1 c1 A2 c2 A3 c3 true hN W hv0 hv1 hv2 hv3).mono ?_
  rintro e w ⟨v, rfl, rfl, hS⟩
  exact ⟨rfl, hS.below⟩
end Go.Proofs.Ytapfdafmhiilkaa
