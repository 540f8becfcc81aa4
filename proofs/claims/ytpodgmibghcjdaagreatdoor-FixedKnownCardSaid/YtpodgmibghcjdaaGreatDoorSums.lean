/-
  FixedSums: every sum and difference that fixed tells is what the document says, and one undoes the other.
  Conditions: none beside the row's own (its listed variables of the library read as the program's text lays them; tied by the card).
-/
import Derived.Test.YtpodgmibghcjdaaGreatDoorWorks
import Derived.Test.YtpodgmibghcjdaaGreatDoorRefA
namespace Go.Proofs.YtpodgmibghcjdaaGreatDoor
open Go Go.RowKit

theorem sumE_cases (n : Int) : (I64 n ∧ sumE n = .returned (.tuple #[.int .i64 n, .int .i64 0])) ∨ sumE n = .returned (.tuple #[.int .i64 0, .int .i64 10]) := by
  unfold sumE pair
  by_cases h : -9223372036854775808 ≤ n ∧ n ≤ 9223372036854775807
  · exact .inl ⟨h, if_pos h⟩
  · exact .inr (if_neg h)

set_option maxHeartbeats 1000000 in
theorem sums_walk (a b : Int) (ha : I64 a) (hb : I64 b) (w : World) (hg : Glob w) :
    Calls Tryz.prog 10 #[.int .i64 a, .int .i64 b] w fun e w' => e = .returned (.bool true) ∧ Below w.heap.size w w' := by
  have h1 := fun w => Add_any a b ha hb w
  have h2 := fun w => refAdd_any a b ha hb w
  have h3 := fun w => Sub_any a b ha hb w
  have h4 := fun w => refSub_any a b ha hb w
  have h6 := fun w hg => works_any w hg
  have hd := sumE_cases (a - b)
  generalize sumE (a - b) = D at *
  have hd' : ∃ d e : Int, D = .returned (.tuple #[.int .i64 d, .int .i64 e]) := by
    rcases hd with ⟨_, h⟩ | h
    · exact ⟨_, _, h⟩
    · exact ⟨_, _, h⟩
  obtain ⟨d, de, rfl⟩ := hd'
  clear hd
  rcases sumE_cases (a + b) with ⟨hab, hs⟩ | hs
  · have h5 := fun w => Sub_any (a + b) b hab hb w
    have e5 : sumE (a + b - b) = .returned (.tuple #[.int .i64 a, .int .i64 0]) := by
      rw [show a + b - b = a by omega]; unfold sumE pair; exact if_pos ha
    simp only [e5] at h5
    simp only [hs] at h1 h2
    obtain ⟨ha1, ha2⟩ := ha
    obtain ⟨hb1, hb2⟩ := hb
    obtain ⟨hc1, hc2⟩ := hab
    have H1 := Lib.hid h1
    have H2 := Lib.hid h2
    have H3 := Lib.hid h3
    have H4 := Lib.hid h4
    have H5 := Lib.hid h5
    have H6 := Lib.hid h6
    clear h1 h2 h3 h4 h5 h6 hs e5
    obtain ⟨S, hS⟩ : ∃ S, S = a + b := ⟨_, rfl⟩
    rw [← hS] at hc1 hc2 H1 H2 H5
    clear hS
    go_enter Tryz.func10, Tryz.ntmps10
    go_wp2_with fail
    refine (H1.out _).mono ?_
    rintro e w1 ⟨rfl, hw1⟩
    go_wp2_with fail
    refine (H2.out _).mono ?_
    rintro e w2 ⟨rfl, rfl⟩
    go_wp2_with fail
    refine (H3.out _).mono ?_
    rintro e w3 ⟨rfl, hw3⟩
    have hw13 := hw1.trans (hw3.mono hw1.size)
    go_wp2_with fail
    refine (H4.out _).mono ?_
    rintro e w4 ⟨rfl, rfl⟩
    go_wp2_with fail
    refine (H5.out _).mono ?_
    rintro e w5 ⟨rfl, hw5⟩
    have hw15 := hw13.trans (hw5.mono hw13.size)
    go_wp2_with fail
    refine (H6.out _ (hg.below hw15)).mono ?_
    rintro e w6 ⟨rfl, hw6⟩
    go_wp2_with fail
    go_ret
    exact ⟨rfl, hw15.trans (hw6.mono hw15.size)⟩
  · have h5 := fun w => Sub_any 0 b ⟨by decide, by decide⟩ hb w
    have hq := sumE_cases (0 - b)
    have hq' : ∃ d e : Int, sumE (0 - b) = .returned (.tuple #[.int .i64 d, .int .i64 e]) := by
      rcases hq with ⟨_, h⟩ | h
      · exact ⟨_, _, h⟩
      · exact ⟨_, _, h⟩
    obtain ⟨q, qe, hq'⟩ := hq'
    simp only [hq'] at h5
    simp only [hs] at h1 h2
    obtain ⟨ha1, ha2⟩ := ha
    obtain ⟨hb1, hb2⟩ := hb
    have H1 := Lib.hid h1
    have H2 := Lib.hid h2
    have H3 := Lib.hid h3
    have H4 := Lib.hid h4
    have H5 := Lib.hid h5
    have H6 := Lib.hid h6
    clear h1 h2 h3 h4 h5 h6 hs hq hq'
    go_enter Tryz.func10, Tryz.ntmps10
    go_wp2_with fail
    refine (H1.out _).mono ?_
    rintro e w1 ⟨rfl, hw1⟩
    go_wp2_with fail
    refine (H2.out _).mono ?_
    rintro e w2 ⟨rfl, rfl⟩
    go_wp2_with fail
    refine (H3.out _).mono ?_
    rintro e w3 ⟨rfl, hw3⟩
    have hw13 := hw1.trans (hw3.mono hw1.size)
    go_wp2_with fail
    refine (H4.out _).mono ?_
    rintro e w4 ⟨rfl, rfl⟩
    go_wp2_with fail
    refine (H5.out _).mono ?_
    rintro e w5 ⟨rfl, hw5⟩
    have hw15 := hw13.trans (hw5.mono hw13.size)
    go_wp2_with fail
    refine (H6.out _ (hg.below hw15)).mono ?_
    rintro e w6 ⟨rfl, hw6⟩
    go_wp2_with fail
    go_ret
    exact ⟨rfl, hw15.trans (hw6.mono hw15.size)⟩
end Go.Proofs.YtpodgmibghcjdaaGreatDoor
