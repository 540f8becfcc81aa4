/-
  The short calls that stand in each statement of layer 1.
-/
import Derived.Test.YtpodgmibghcjdaaGreatDoorRead
import Derived.Test.YtpodgmibghcjdaaGreatDoorPrt
namespace Go.Proofs.YtpodgmibghcjdaaGreatDoor
open Go Go.RowKit

theorem print_m1 : printL (-1) = [45, 48, 46, 48, 48, 48, 48, 49, 53, 50, 53, 56, 55, 56, 57, 48, 54, 50, 53] := by
  unfold printL
  rw [show (-1 : Int).natAbs / 65536 = 0 from rfl, show (-1 : Int).natAbs % 65536 = 1 from rfl]
  rw [Lib.decDigits, dif_pos (by omega)]
  decide

theorem print_m1_any (w : World) : Calls Tryz.prog 6 #[.int .i64 (-1)] w fun e w' =>
    e = .returned (.string ⟨#[45, 48, 46, 48, 48, 48, 48, 49, 53, 50, 53, 56, 55, 56, 57, 48, 54, 50, 53]⟩) ∧ Below w.heap.size w w' := by
  have h := print_any (-1) (by decide) (by decide) w (by
    rw [show (-1 : Int).natAbs / 65536 = 0 from rfl]
    intro w' _
    refine (formatUint_small 0 (by omega) w').mono ?_
    rintro e w'' ⟨rfl, rfl⟩
    exact ⟨rfl, Below.refl _ _⟩)
  rw [print_m1] at h
  exact h

theorem works_any (w : World) (hg : Glob w) : Calls Tryz.prog 14 #[] w fun e w' => e = .returned (.bool true) ∧ Below w.heap.size w w' := by
  have h1 := fun w => MulDiv_any (-7) 1 2 ⟨by decide, by decide⟩ ⟨by decide, by decide⟩ ⟨by decide, by decide⟩ w
  have e1 : told (floorE (-7) 1 2) = .returned (.tuple #[.int .i64 (-4), .int .i64 0]) := by kernel_rfl
  simp only [e1] at h1
  have h2 := fun w hg => read_any ⟨#[49, 46, 53]⟩ (by decide) w hg (by
    rintro ⟨b, X, Y, hp, hb⟩
    have e : splitP (ByteArray.mk #[49, 46, 53]).data.toList = some (false, [49], [53]) := by kernel_rfl
    rw [e] at hp
    injection hp with hp
    injection hp with _ hp
    injection hp with hX _
    rw [← hX] at hb
    exact absurd hb (by decide))
  have e2 : told (readE (ByteArray.mk #[49, 46, 53]).data.toList) = .returned (.tuple #[.int .i64 98304, .int .i64 0]) := by kernel_rfl
  simp only [e2] at h2
  have h3 := fun w => print_m1_any w
  have H1 := Lib.hid h1
  have H2 := Lib.hid h2
  have H3 := Lib.hid h3
  clear h1 h2 h3 e1 e2
  go_enter Tryz.func14, Tryz.ntmps14
  go_wp2_with fail
  refine (H1.out _).mono ?_
  rintro e w1 ⟨rfl, hb1⟩
  go_wp2_with fail
  refine (H2.out _ (hg.below hb1)).mono ?_
  rintro e w2 ⟨rfl, hb2⟩
  have hb12 := hb1.trans (hb2.mono hb1.size)
  go_wp2_with fail
  refine (H3.out _).mono ?_
  rintro e w3 ⟨rfl, hb3⟩
  have hb13 := hb12.trans (hb3.mono hb12.size)
  go_wp2_with fail
  go_ret
  exact ⟨rfl, hb13⟩
end Go.Proofs.YtpodgmibghcjdaaGreatDoor
