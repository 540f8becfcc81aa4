/-
  EmbedWithout, called.
-/
import Derived.Test.YtjndolnjhbgflaaHW
namespace Go.Proofs.Ytjndolnjhbgflaa
open Go Go.RowKit
set_option linter.unusedVariables false
theorem callWithout (W : World) (x0 : List Int) (u0 : ∀ x ∈ x0, 0 ≤ x ∧ x ≤ 255) (A0 : Option Addr) (c0 : Nat) (hv0 : Vw [] .u8 W A0 c0 x0) (x1 : List Int) (u1 : ∀ x ∈ x1, 0 ≤ x ∧ x ≤ 255) (A1 : Option Addr) (c1 : Nat) (hv1 : Vw [] .u8 W A1 c1 x1) (x2 : Int) (u2 : 0 ≤ x2 ∧ x2 ≤ 255) (x3 : List Int) (u3 : ∀ x ∈ x3, 0 ≤ x ∧ x ≤ 65535) (A3 : Option Addr) (c3 : Nat) (hv3 : Vw [] .u16 W A3 c3 x3) : Calls Try.prog 5 #[.slice A0 x0.length c0, .slice A1 x1.length c1, .int .u8 x2, .slice A3 x3.length c3] W fun e w => e = .returned (.bool true) ∧ Below W.heap.size W w := by
  obtain ⟨N, hN⟩ := fWithout_true x0 x1 x2 x3 (fun x hx => (u1 x hx).1) u2.1 (fun x hx => (u3 x hx).1)
  refine (fWithout_ok N x0 x1 x2 x3 A0 c0 A1 c1 A3 c3 true hN W hv0 hv1 hv3).mono ?_
  rintro e w ⟨v, rfl, rfl, hS⟩
  exact ⟨rfl, hS.below⟩
end Go.Proofs.Ytjndolnjhbgflaa
