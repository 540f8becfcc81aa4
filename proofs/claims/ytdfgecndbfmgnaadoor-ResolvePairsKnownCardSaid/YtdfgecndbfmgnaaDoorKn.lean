/-
  ResolvePairsKnown, computed.
-/
import Derived.Test.YtdfgecndbfmgnaaDoorFK1
import Derived.Test.YtdfgecndbfmgnaaDoorPq
namespace Go.Proofs.YtdfgecndbfmgnaaDoor
open Go Go.RowKit
set_option linter.unusedVariables false
set_option linter.unusedSimpArgs false

theorem big_row : ∃ Z : List Int, mkx (65537 : Int) = some Z ∧ Z.length = 65537 :=
  ⟨List.replicate 65537 0, mkx_nat 65537 (by decide), List.length_replicate ..⟩
theorem big_pairs (N : Nat) (Z : List Int) (h : Z.length = 65537) : pPairs N Z Z Z 0 1 = some ([], 3) := by
  unfold pPairs
  rw [if_pos (by omega)]
theorem pk_true : fPK 3000 = some true := by
  obtain ⟨Z, hZ, hl⟩ := big_row
  unfold fPK
  simp only [hZ, Option.bind_some, big_pairs 3000 Z hl]
  kernel_rfl
theorem pk_calls (W : World) (hm : MirW W) : Calls Tryd.prog 4 #[] W fun e W' => e = .returned (.bool true) ∧ Below W.heap.size W W' := by
  refine (fPK_ok 3000 true pk_true W hm).mono ?_
  rintro e w ⟨v, rfl, rfl, h⟩
  exact ⟨rfl, h.below⟩
end Go.Proofs.YtdfgecndbfmgnaaDoor
