/-
  FixedQuotients and FixedScales: every quotient of a product, every ratio and every scaled number of units that fixed tells is what the document says.
  Conditions: none beside the rows' own (the listed variables of the library read as the program's text lays them; tied by the card).
-/
import Derived.Test.YtpodgmibghcjdaaGreatDoorWorks
import Derived.Test.YtpodgmibghcjdaaGreatDoorRefQ
namespace Go.Proofs.YtpodgmibghcjdaaGreatDoor
open Go Go.RowKit

theorem told_floor (a b c : Int) : ∃ z k : Int, told (floorE a b c) = .returned (.tuple #[.int .i64 z, .int .i64 k]) := by
  unfold floorE
  by_cases h : c = 0
  · rw [if_pos h]; exact ⟨0, 2, rfl⟩
  · rw [if_neg h]; exact told_pair _ _

theorem told_round (a b c : Int) : ∃ z k : Int, told (roundE a b c) = .returned (.tuple #[.int .i64 z, .int .i64 k]) := by
  unfold roundE
  by_cases h : c = 0
  · rw [if_pos h]; exact ⟨0, 2, rfl⟩
  · rw [if_neg h]; exact told_pair _ _

theorem refMulDiv_any (a b c : Int) (ha : I64 a) (hb : I64 b) (hc : I64 c) (w : World) :
    Calls Tryz.prog 34 #[.int .i64 a, .int .i64 b, .int .i64 c] w fun e w' => e = told (floorE a b c) ∧ Below w.heap.size w w' := by
  have h := refFloorQ a b c ha hb hc w
  obtain ⟨z, k, e⟩ := told_floor a b c
  rw [e] at h ⊢
  have H := Lib.hid h
  clear h e
  go_enter Tryz.func34, Tryz.ntmps34
  go_wp2_with fail
  refine H.out.mono ?_
  rintro e w1 ⟨rfl, hb1⟩
  go_wp2_with fail
  go_ret2
  exact ⟨rfl, hb1⟩

theorem refRound_any (a b c : Int) (ha : I64 a) (hb : I64 b) (hc : I64 c) (w : World) :
    Calls Tryz.prog 35 #[.int .i64 a, .int .i64 b, .int .i64 c] w fun e w' => e = told (roundE a b c) ∧ Below w.heap.size w w' := by
  have h := refRoundQ a b c ha hb hc w
  obtain ⟨z, k, e⟩ := told_round a b c
  rw [e] at h ⊢
  have H := Lib.hid h
  clear h e
  go_enter Tryz.func35, Tryz.ntmps35
  go_wp2_with fail
  refine H.out.mono ?_
  rintro e w1 ⟨rfl, hb1⟩
  go_wp2_with fail
  go_ret2
  exact ⟨rfl, hb1⟩

theorem Ratio_any (a b : Int) (ha : I64 a) (hb : I64 b) (w : World) :
    Calls Tryz.prog 40 #[.int .i64 a, .int .i64 b] w fun e w' => e = told (roundE a 65536 b) ∧ Below w.heap.size w w' := by
  have h := Round_any a 65536 b ha ⟨by decide, by decide⟩ hb w
  obtain ⟨z, k, e⟩ := told_round a 65536 b
  rw [e] at h ⊢
  have H := Lib.hid h
  clear h e
  go_enter Tryz.func40, Tryz.ntmps40
  go_wp2_with fail
  refine H.out.mono ?_
  rintro e w1 ⟨rfl, hb1⟩
  go_wp2_with fail
  go_ret2
  exact ⟨rfl, hb1⟩

theorem Scale_any (a b m : Int) (ha : I64 a) (hb : I64 b) (hm : 0 ≤ m ∧ m ≤ 65535) (w : World) :
    Calls Tryz.prog 41 #[.int .i64 a, .int .i64 b, .int .u16 m] w fun e w' => e = told (roundE a b m) ∧ Below w.heap.size w w' := by
  have h := Round_any a b m ha hb ⟨by omega, by omega⟩ w
  obtain ⟨z, k, e⟩ := told_round a b m
  rw [e] at h ⊢
  have H := Lib.hid h
  obtain ⟨m0, m1⟩ := hm
  clear h e
  go_enter Tryz.func41, Tryz.ntmps41
  go_wp2_with fail
  refine H.out.mono ?_
  rintro e w1 ⟨rfl, hb1⟩
  go_wp2_with fail
  go_ret2
  exact ⟨rfl, hb1⟩

set_option maxHeartbeats 1000000 in
theorem quotients_walk (a b c : Int) (ha : I64 a) (hb : I64 b) (hc : I64 c) (w : World) (hg : Glob w) :
    Calls Tryz.prog 9 #[.int .i64 a, .int .i64 b, .int .i64 c] w fun e w' => e = .returned (.bool true) ∧ Below w.heap.size w w' := by
  have h1 := fun w => MulDiv_any a b c ha hb hc w
  have h2 := fun w => refMulDiv_any a b c ha hb hc w
  have h3 := fun w => Round_any a b c ha hb hc w
  have h4 := fun w => refRound_any a b c ha hb hc w
  have h5 := fun w hg => works_any w hg
  obtain ⟨x, e, e1⟩ := told_floor a b c
  obtain ⟨u, g, e2⟩ := told_round a b c
  simp only [e1] at h1 h2
  simp only [e2] at h3 h4
  have H1 := Lib.hid h1
  have H2 := Lib.hid h2
  have H3 := Lib.hid h3
  have H4 := Lib.hid h4
  have H5 := Lib.hid h5
  clear h1 h2 h3 h4 h5 e1 e2
  go_enter Tryz.func9, Tryz.ntmps9
  go_wp2_with fail
  refine (H1.out _).mono ?_
  rintro e w1 ⟨rfl, hb1⟩
  go_wp2_with fail
  refine (H2.out _).mono ?_
  rintro e w2 ⟨rfl, hb2⟩
  have hb12 := hb1.trans (hb2.mono hb1.size)
  go_wp2_with fail
  refine (H3.out _).mono ?_
  rintro e w3 ⟨rfl, hb3⟩
  have hb13 := hb12.trans (hb3.mono hb12.size)
  go_wp2_with fail
  refine (H4.out _).mono ?_
  rintro e w4 ⟨rfl, hb4⟩
  have hb14 := hb13.trans (hb4.mono hb13.size)
  go_wp2_with fail
  refine (H5.out _ (hg.below hb14)).mono ?_
  rintro e w5 ⟨rfl, hb5⟩
  go_wp2_with fail
  go_ret
  exact ⟨rfl, hb14.trans (hb5.mono hb14.size)⟩

set_option maxHeartbeats 1000000 in
theorem scales_walk (a b m : Int) (ha : I64 a) (hb : I64 b) (hm : 0 ≤ m ∧ m ≤ 65535) (w : World) (hg : Glob w) :
    Calls Tryz.prog 11 #[.int .i64 a, .int .i64 b, .int .u16 m] w fun e w' => e = .returned (.bool true) ∧ Below w.heap.size w w' := by
  have h1 := fun w => Ratio_any a b ha hb w
  have h2 := fun w => refRound_any a 65536 b ha ⟨by decide, by decide⟩ hb w
  have h3 := fun w => Scale_any a b m ha hb hm w
  have h4 := fun w => refRound_any a b m ha hb ⟨by omega, by omega⟩ w
  have h5 := fun w hg => works_any w hg
  obtain ⟨x, e, e1⟩ := told_round a 65536 b
  obtain ⟨u, g, e2⟩ := told_round a b m
  simp only [e1] at h1 h2
  simp only [e2] at h3 h4
  have H1 := Lib.hid h1
  have H2 := Lib.hid h2
  have H3 := Lib.hid h3
  have H4 := Lib.hid h4
  have H5 := Lib.hid h5
  obtain ⟨m0, m1⟩ := hm
  clear h1 h2 h3 h4 h5 e1 e2
  go_enter Tryz.func11, Tryz.ntmps11
  go_wp2_with fail
  refine (H1.out _).mono ?_
  rintro e w1 ⟨rfl, hb1⟩
  go_wp2_with fail
  refine (H2.out _).mono ?_
  rintro e w2 ⟨rfl, hb2⟩
  have hb12 := hb1.trans (hb2.mono hb1.size)
  go_wp2_with fail
  refine (H3.out _).mono ?_
  rintro e w3 ⟨rfl, hb3⟩
  have hb13 := hb12.trans (hb3.mono hb12.size)
  go_wp2_with fail
  refine (H4.out _).mono ?_
  rintro e w4 ⟨rfl, hb4⟩
  have hb14 := hb13.trans (hb4.mono hb13.size)
  go_wp2_with fail
  refine (H5.out _ (hg.below hb14)).mono ?_
  rintro e w5 ⟨rfl, hb5⟩
  go_wp2_with fail
  go_ret
  exact ⟨rfl, hb14.trans (hb5.mono hb14.size)⟩
end Go.Proofs.YtpodgmibghcjdaaGreatDoor
