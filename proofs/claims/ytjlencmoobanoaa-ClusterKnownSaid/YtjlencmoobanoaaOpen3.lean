/-
  Slices that came in, as the walks ask them.
-/
import Derived.Test.YtjlencmoobanoaaRows
import Derived.Test.YtjlencmoobanoaaBase
import Derived.Test.YtjlencmoobanoaaRefC
import Derived.Test.YtjlencmoobanoaaWf2
import Derived.ProofKit
import Derived.LaidMore
import Derived.LaidSub
import Derived.OpenShut
import Derived.ChangeOld
import Derived.ChangeSlices
import Derived.Carry
namespace Go.Proofs.Ytjlencmoobanoaa
open Go Go.ChangeShapes Go.WideShapes Go.ChangeAt Go.RowKit

/-- a slice of runes that came in -/
theorem runes_in {H : Type} {enc : TypeId × Value → H} {W : World} {a0 : Option Addr} {len0 cap0 : Nat} {d : DataW H} {ps : List MemPlace} (h0 : DataW.Trod enc Try.prog W 0 (fun _ => true) true 22 (.slice a0 len0 cap0) d ps) :
    ∃ l : List Int, AllR l ∧ RunesZ W (.slice a0 len0 cap0) l := by
  obtain ⟨fuel, hf⟩ := h0
  rcases open_ints Try.underlying22 Try.underlying21 (by kernel_rfl) hf with ⟨hcs, _⟩ | ⟨x, l, c, zs, hcs, _, hl, hm, hz, _, hcell, hwz⟩
  · simp [Value.cells] at hcs
    obtain ⟨rfl, rfl, rfl⟩ := hcs
    exact ⟨[], (fun r hr => by cases hr), none, 0, rfl, Nat.le_refl _, by omega, fun h => absurd rfl h⟩
  · simp [Value.cells] at hcs
    obtain ⟨rfl, rfl, rfl⟩ := hcs
    have hz' : zs.length = cap0 := by simpa using hz
    have hlen : (zs.take len0).length = len0 := by simp; omega
    refine ⟨zs.take len0, fun r hr => i32_of (hwz r (List.mem_of_mem_take hr)), some x, cap0, by rw [hlen], by omega, by unfold maxLen at hm; omega, fun hp => ?_⟩
    have hpos : 0 < len0 := by
      rcases Nat.eq_zero_or_pos len0 with h | h
      · rw [h] at hp; exact absurd rfl hp
      · exact h
    obtain ⟨g, off, spot⟩ := x
    have hc0 := hcell 0 (by omega)
    have hspot : spot = none := by simpa [Addr.add] using World.cell?_spot hc0
    subst hspot
    refine ⟨g, off, rfl, ?_, fun j hj => ?_⟩
    · rw [add_flat] at hc0
      exact World.block_lt_of_cell? W _ hc0
    · rw [hlen] at hj
      have hc := hcell j (by omega)
      rw [add_flat] at hc
      rw [hc]
      have hjz : j < zs.length := by omega
      simp [hjz]
end Go.Proofs.Ytjlencmoobanoaa
