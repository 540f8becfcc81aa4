/-
  A slice of runes that came in and points nowhere is empty.
-/
import Derived.Test.YtjlencmoobanoaaOpen3
namespace Go.Proofs.Ytjlencmoobanoaa
open Go Go.ChangeShapes Go.WideShapes Go.ChangeAt Go.RowKit

theorem runes_nil {H : Type} {enc : TypeId × Value → H} {W : World} {a0 : Option Addr} {len0 cap0 : Nat} {d : DataW H} {ps : List MemPlace} (h0 : DataW.Trod enc Try.prog W 0 (fun _ => true) true 22 (.slice a0 len0 cap0) d ps) :
    ∀ n c, Value.slice a0 len0 cap0 = .slice none n c → n = 0 ∧ c = 0 := by
  obtain ⟨fuel, hf⟩ := h0
  intro n c hv
  injection hv with e1 e2 e3
  subst e1; subst e2; subst e3
  rcases open_ints Try.underlying22 Try.underlying21 (by kernel_rfl) hf with ⟨hcs, _⟩ | ⟨x, l, c, zs, hcs, _⟩
  · simp [Value.cells] at hcs
    obtain ⟨rfl, rfl⟩ := hcs
    exact ⟨rfl, rfl⟩
  · simp [Value.cells] at hcs
end Go.Proofs.Ytjlencmoobanoaa
