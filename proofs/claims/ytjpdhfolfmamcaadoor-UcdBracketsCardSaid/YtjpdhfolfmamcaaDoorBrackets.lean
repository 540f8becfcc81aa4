/-
  UcdBrackets: any character is a bracket, and mirrored, as the document says.
-/
import Derived.Test.YtjpdhfolfmamcaaDoorMir
import Derived.Test.YtjpdhfolfmamcaaDoorWks
namespace Go.Proofs.YtjpdhfolfmamcaaDoor
open Go Go.RowKit

set_option maxHeartbeats 2000000 in
set_option maxRecDepth 20000 in
theorem brackets_walk (r : Int) (_hr : I32 r) (w : World) (hT : U8T w) (hm : MirW w) : Calls Tryd.prog 4 #[.int .i32 r] w fun e w' => e = .returned (.bool true) ∧ Below w.heap.size w w' := by
  obtain ⟨T, hTd⟩ : ∃ T, T = pairTable Tryd.f43 := ⟨_, rfl⟩
  have hok := mir_ok
  have hbr := fun w => refBrackets_any w
  rw [← hTd] at hok
  simp only [← hTd] at hbr
  have HT := Lib.hid hT
  have a1 := fun w hm => bracket_is T hok r w hm
  have a2 := fun w => refBracket_is T hbr hok.len r w
  have a3 := fun w hm => mirror_is T hok r w hm
  have a4 := fun w => refMirror_is T hbr hok.len r w
  obtain ⟨B, hB⟩ : ∃ B, B = bracketS T r := ⟨_, rfl⟩
  obtain ⟨M, hM⟩ : ∃ M, M = mirrorS (othersL ++ T) r := ⟨_, rfl⟩
  simp only [← hB] at a1 a2
  simp only [← hM] at a3 a4
  obtain ⟨b1, b2, b3⟩ := B
  obtain ⟨m1, m2⟩ := M
  have A1 := Lib.hid a1
  have A2 := Lib.hid a2
  have A3 := Lib.hid a3
  have A4 := Lib.hid a4
  have HM := Lib.hid hm
  clear a1 a2 a3 a4 hB hM hTd hok hbr hT hm
  go_enter Tryd.func4, Tryd.ntmps4
  go_wp2_with fail
  refine (A1.out _ HM.out).mono ?_
  rintro e w' ⟨rfl, rfl⟩
  go_wp2_with fail
  refine (A2.out _).mono ?_
  rintro e w1 ⟨rfl, hb1⟩
  have HB1 := Lib.hid hb1
  clear hb1
  go_wp2_with fail
  refine (A3.out _ (HM.out.below HB1.out)).mono ?_
  rintro e w' ⟨rfl, rfl⟩
  go_wp2_with fail
  refine (A4.out _).mono ?_
  rintro e w2 ⟨rfl, hb2⟩
  have HB2 := Lib.hid (HB1.out.trans (hb2.mono HB1.out.size))
  clear hb2
  go_wp2_with fail
  refine (works_any _ (u8_below HT.out HB2.out)).mono ?_
  rintro e w3 ⟨rfl, hb3⟩
  have HB3 := Lib.hid (HB2.out.trans (hb3.mono HB2.out.size))
  clear hb3
  go_wp2_with fail
  go_ret
  exact ⟨rfl, HB3.out⟩
end Go.Proofs.YtjpdhfolfmamcaaDoor
