/-
  same: all that is known of a character is what the document says.
-/
import Derived.Test.YtjpdhfolfmamcaaDoorEq
namespace Go.Proofs.YtjpdhfolfmamcaaDoor
open Go Go.RowKit

set_option maxHeartbeats 2000000 in
set_option maxRecDepth 20000 in
theorem same_any (r : Int) (hr : I32 r) (w : World) : Calls Tryd.prog 10 #[.int .i32 r] w fun e w' => e = .returned (.bool true) ∧ Below w.heap.size w w' := by
  have a0 := class_any r
  have d0 := fun w => refClass_is _ tabClasses r w
  rw [class_eq] at a0
  obtain ⟨x0, hx0⟩ : ∃ x, x = classS (tableOf Tryd.f33) r := ⟨_, rfl⟩
  simp only [← hx0] at a0 d0
  have A0 := Lib.hid a0
  have D0 := Lib.hid d0
  clear a0 d0 hx0
  have a1 := joining_any r
  have d1 := fun w => refJoining_is _ tabJoinings r w
  rw [joining_eq] at a1
  obtain ⟨x1, hx1⟩ : ∃ x, x = joiningS (tableOf Tryd.f27) r := ⟨_, rfl⟩
  simp only [← hx1] at a1 d1
  have A1 := Lib.hid a1
  have D1 := Lib.hid d1
  clear a1 d1 hx1
  have a2 := break_any r
  have d2 := fun w => refBreak_is _ tabBreaks r hr w
  rw [break_eq] at a2
  obtain ⟨x2, hx2⟩ : ∃ x, x = breakS (tableOf Tryd.f28) r := ⟨_, rfl⟩
  simp only [← hx2] at a2 d2
  have A2 := Lib.hid a2
  have D2 := Lib.hid d2
  clear a2 d2 hx2
  have a3 := cluster_any r
  have d3 := fun w => refCluster_is _ tabClusters r hr w
  rw [cluster_eq] at a3
  obtain ⟨x3, hx3⟩ : ∃ x, x = clusterS (tableOf Tryd.f29) r := ⟨_, rfl⟩
  simp only [← hx3] at a3 d3
  have A3 := Lib.hid a3
  have D3 := Lib.hid d3
  clear a3 d3 hx3
  have a4 := script_any r
  have d4 := fun w => refScript_is _ tabScripts r w
  rw [script_eq] at a4
  obtain ⟨x4, hx4⟩ : ∃ x, x = scriptS (tableOf Tryd.f30) r := ⟨_, rfl⟩
  simp only [← hx4] at a4 d4
  have A4 := Lib.hid a4
  have D4 := Lib.hid d4
  clear a4 d4 hx4
  have a5 := wide_any r
  have d5 := fun w => refWide_is _ tabWides r w
  rw [wide_eq] at a5
  obtain ⟨x5, hx5⟩ : ∃ x, x = decide (wideS (tableOf Tryd.f31) r = 1) := ⟨_, rfl⟩
  simp only [← hx5] at a5 d5
  have A5 := Lib.hid a5
  have D5 := Lib.hid d5
  clear a5 d5 hx5
  have a6 := space_any r
  have d6 := fun w => refSpace_is _ tabSpaces r w
  rw [space_eq] at a6
  obtain ⟨x6, hx6⟩ : ∃ x, x = decide (spaceS (tableOf Tryd.f32) r = 1) := ⟨_, rfl⟩
  simp only [← hx6] at a6 d6
  have A6 := Lib.hid a6
  have D6 := Lib.hid d6
  clear a6 d6 hx6
  clear hr
  have HB0 : Hid (Below w.heap.size w w) := Lib.hid (Below.refl _ _)
  go_enter Tryd.func10, Tryd.ntmps10
  go_wp2_with fail
  refine (A0.out _).mono ?_
  rintro e w' ⟨rfl, rfl⟩
  go_wp2_with fail
  refine (D0.out _).mono ?_
  rintro e w1 ⟨rfl, hb1⟩
  have HB1 := Lib.hid (HB0.out.trans (hb1.mono HB0.out.size))
  clear hb1
  go_wp2_with fail
  refine (A1.out _).mono ?_
  rintro e w' ⟨rfl, rfl⟩
  go_wp2_with fail
  refine (D1.out _).mono ?_
  rintro e w2 ⟨rfl, hb2⟩
  have HB2 := Lib.hid (HB1.out.trans (hb2.mono HB1.out.size))
  clear hb2
  go_wp2_with fail
  refine (A2.out _).mono ?_
  rintro e w' ⟨rfl, rfl⟩
  go_wp2_with fail
  refine (D2.out _).mono ?_
  rintro e w3 ⟨rfl, hb3⟩
  have HB3 := Lib.hid (HB2.out.trans (hb3.mono HB2.out.size))
  clear hb3
  go_wp2_with fail
  refine (A3.out _).mono ?_
  rintro e w' ⟨rfl, rfl⟩
  go_wp2_with fail
  refine (D3.out _).mono ?_
  rintro e w4 ⟨rfl, hb4⟩
  have HB4 := Lib.hid (HB3.out.trans (hb4.mono HB3.out.size))
  clear hb4
  go_wp2_with fail
  refine (A4.out _).mono ?_
  rintro e w' ⟨rfl, rfl⟩
  go_wp2_with fail
  refine (D4.out _).mono ?_
  rintro e w5 ⟨rfl, hb5⟩
  have HB5 := Lib.hid (HB4.out.trans (hb5.mono HB4.out.size))
  clear hb5
  go_wp2_with fail
  refine (A5.out _).mono ?_
  rintro e w' ⟨rfl, rfl⟩
  go_wp2_with fail
  refine (D5.out _).mono ?_
  rintro e w6 ⟨rfl, hb6⟩
  have HB6 := Lib.hid (HB5.out.trans (hb6.mono HB5.out.size))
  clear hb6
  go_wp2_with fail
  refine (A6.out _).mono ?_
  rintro e w' ⟨rfl, rfl⟩
  go_wp2_with fail
  refine (D6.out _).mono ?_
  rintro e w7 ⟨rfl, hb7⟩
  have HB7 := Lib.hid (HB6.out.trans (hb7.mono HB6.out.size))
  clear hb7
  go_wp2_with fail
  go_ret
  exact ⟨rfl, HB7.out⟩
end Go.Proofs.YtjpdhfolfmamcaaDoor
