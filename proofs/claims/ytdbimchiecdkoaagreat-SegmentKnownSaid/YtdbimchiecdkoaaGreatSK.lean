/-
  SegmentKnown, by lists.
-/
import Derived.Test.YtdbimchiecdkoaaGreatST
import Derived.Test.YtdbimchiecdkoaaGreatSY
import Derived.Test.YtdbimchiecdkoaaGreatFKnown
namespace Go.Proofs.YtdbimchiecdkoaaGreat
open Go Go.RowKit Sg
set_option linter.unusedVariables false
set_option linter.unusedSimpArgs false
theorem are0 {N : Nat} (hN : 100 ≤ N) : kAre N (⟨#[97, 10, 98]⟩ : ByteArray) (⟨#[48, 48, 50, 50]⟩ : ByteArray) = some true := by
  have e1 : runesX (⟨#[97, 10, 98]⟩ : ByteArray) = some [97, 10, 98] := by kernel_rfl
  have b1 : brk breakC wdC [97, 10, 98] = [0, 0, 2, 2] := by kernel_rfl
  unfold kAre
  rw [e1, Option.bind_some, pBreaks_ly (by omega) (by simp; omega) (by simp), Option.bind_some, b1]
  obtain ⟨k, rfl⟩ : ∃ k, N = k + 100 := ⟨N - 100, by omega⟩
  rfl
theorem are1 {N : Nat} (hN : 100 ≤ N) : kAre N (⟨#[97, 10, 13, 98]⟩ : ByteArray) (⟨#[48, 48, 50, 50, 50]⟩ : ByteArray) = some true := by
  have e1 : runesX (⟨#[97, 10, 13, 98]⟩ : ByteArray) = some [97, 10, 13, 98] := by kernel_rfl
  have b1 : brk breakC wdC [97, 10, 13, 98] = [0, 0, 2, 2, 2] := by kernel_rfl
  unfold kAre
  rw [e1, Option.bind_some, pBreaks_ly (by omega) (by simp; omega) (by simp), Option.bind_some, b1]
  obtain ⟨k, rfl⟩ : ∃ k, N = k + 100 := ⟨N - 100, by omega⟩
  rfl
theorem are2 {N : Nat} (hN : 100 ≤ N) : kAre N (⟨#[40, 97, 41, 33]⟩ : ByteArray) (⟨#[48, 48, 48, 48, 50]⟩ : ByteArray) = some true := by
  have e1 : runesX (⟨#[40, 97, 41, 33]⟩ : ByteArray) = some [40, 97, 41, 33] := by kernel_rfl
  have b1 : brk breakC wdC [40, 97, 41, 33] = [0, 0, 0, 0, 2] := by kernel_rfl
  unfold kAre
  rw [e1, Option.bind_some, pBreaks_ly (by omega) (by simp; omega) (by simp), Option.bind_some, b1]
  obtain ⟨k, rfl⟩ : ∃ k, N = k + 100 := ⟨N - 100, by omega⟩
  rfl
theorem are3 {N : Nat} (hN : 100 ≤ N) : kAre N (⟨#[36, 49, 46, 53, 37, 32, 120]⟩ : ByteArray) (⟨#[48, 48, 48, 48, 48, 48, 49, 50]⟩ : ByteArray) = some true := by
  have e1 : runesX (⟨#[36, 49, 46, 53, 37, 32, 120]⟩ : ByteArray) = some [36, 49, 46, 53, 37, 32, 120] := by kernel_rfl
  have b1 : brk breakC wdC [36, 49, 46, 53, 37, 32, 120] = [0, 0, 0, 0, 0, 0, 1, 2] := by kernel_rfl
  unfold kAre
  rw [e1, Option.bind_some, pBreaks_ly (by omega) (by simp; omega) (by simp), Option.bind_some, b1]
  obtain ⟨k, rfl⟩ : ∃ k, N = k + 100 := ⟨N - 100, by omega⟩
  rfl
theorem are4 {N : Nat} (hN : 100 ≤ N) : kAre N (⟨#[97, 45, 98]⟩ : ByteArray) (⟨#[48, 48, 49, 50]⟩ : ByteArray) = some true := by
  have e1 : runesX (⟨#[97, 45, 98]⟩ : ByteArray) = some [97, 45, 98] := by kernel_rfl
  have b1 : brk breakC wdC [97, 45, 98] = [0, 0, 1, 2] := by kernel_rfl
  unfold kAre
  rw [e1, Option.bind_some, pBreaks_ly (by omega) (by simp; omega) (by simp), Option.bind_some, b1]
  obtain ⟨k, rfl⟩ : ∃ k, N = k + 100 := ⟨N - 100, by omega⟩
  rfl
theorem are5 {N : Nat} (hN : 100 ≤ N) : kAre N (⟨#[215, 144, 45, 97]⟩ : ByteArray) (⟨#[48, 48, 48, 50]⟩ : ByteArray) = some true := by
  have e1 : runesX (⟨#[215, 144, 45, 97]⟩ : ByteArray) = some [1488, 45, 97] := by kernel_rfl
  have b1 : brk breakC wdC [1488, 45, 97] = [0, 0, 0, 2] := by kernel_rfl
  unfold kAre
  rw [e1, Option.bind_some, pBreaks_ly (by omega) (by simp; omega) (by simp), Option.bind_some, b1]
  obtain ⟨k, rfl⟩ : ∃ k, N = k + 100 := ⟨N - 100, by omega⟩
  rfl
theorem are6 {N : Nat} (hN : 100 ≤ N) : kAre N (⟨#[228, 184, 128, 228, 184, 129, 227, 128, 130]⟩ : ByteArray) (⟨#[48, 49, 48, 50]⟩ : ByteArray) = some true := by
  have e1 : runesX (⟨#[228, 184, 128, 228, 184, 129, 227, 128, 130]⟩ : ByteArray) = some [19968, 19969, 12290] := by kernel_rfl
  have b1 : brk breakC wdC [19968, 19969, 12290] = [0, 1, 0, 2] := by kernel_rfl
  unfold kAre
  rw [e1, Option.bind_some, pBreaks_ly (by omega) (by simp; omega) (by simp), Option.bind_some, b1]
  obtain ⟨k, rfl⟩ : ∃ k, N = k + 100 := ⟨N - 100, by omega⟩
  rfl
theorem are7 {N : Nat} (hN : 100 ≤ N) : kAre N (⟨#[97, 204, 129, 226, 128, 139, 98]⟩ : ByteArray) (⟨#[48, 48, 48, 49, 50]⟩ : ByteArray) = some true := by
  have e1 : runesX (⟨#[97, 204, 129, 226, 128, 139, 98]⟩ : ByteArray) = some [97, 769, 8203, 98] := by kernel_rfl
  have b1 : brk breakC wdC [97, 769, 8203, 98] = [0, 0, 0, 1, 2] := by kernel_rfl
  unfold kAre
  rw [e1, Option.bind_some, pBreaks_ly (by omega) (by simp; omega) (by simp), Option.bind_some, b1]
  obtain ⟨k, rfl⟩ : ∃ k, N = k + 100 := ⟨N - 100, by omega⟩
  rfl
theorem are8 {N : Nat} (hN : 100 ≤ N) : kAre N (⟨#[240, 159, 135, 166, 240, 159, 135, 167, 240, 159, 135, 168]⟩ : ByteArray) (⟨#[48, 48, 49, 50]⟩ : ByteArray) = some true := by
  have e1 : runesX (⟨#[240, 159, 135, 166, 240, 159, 135, 167, 240, 159, 135, 168]⟩ : ByteArray) = some [127462, 127463, 127464] := by kernel_rfl
  have b1 : brk breakC wdC [127462, 127463, 127464] = [0, 0, 1, 2] := by kernel_rfl
  unfold kAre
  rw [e1, Option.bind_some, pBreaks_ly (by omega) (by simp; omega) (by simp), Option.bind_some, b1]
  obtain ⟨k, rfl⟩ : ∃ k, N = k + 100 := ⟨N - 100, by omega⟩
  rfl
theorem are9 {N : Nat} (hN : 100 ≤ N) : kAre N (⟨#[]⟩ : ByteArray) (⟨#[50]⟩ : ByteArray) = some true := by
  have e1 : runesX (⟨#[]⟩ : ByteArray) = some [] := by kernel_rfl
  have b1 : brk breakC wdC [] = [2] := by kernel_rfl
  unfold kAre
  rw [e1, Option.bind_some, pBreaks_ly (by omega) (by simp; omega) (by simp), Option.bind_some, b1]
  obtain ⟨k, rfl⟩ : ∃ k, N = k + 100 := ⟨N - 100, by omega⟩
  rfl
theorem are10 {N : Nat} (hN : 100 ≤ N) : kAre N (⟨#[32, 97]⟩ : ByteArray) (⟨#[48, 49, 50]⟩ : ByteArray) = some true := by
  have e1 : runesX (⟨#[32, 97]⟩ : ByteArray) = some [32, 97] := by kernel_rfl
  have b1 : brk breakC wdC [32, 97] = [0, 1, 2] := by kernel_rfl
  unfold kAre
  rw [e1, Option.bind_some, pBreaks_ly (by omega) (by simp; omega) (by simp), Option.bind_some, b1]
  obtain ⟨k, rfl⟩ : ∃ k, N = k + 100 := ⟨N - 100, by omega⟩
  rfl
theorem are11 {N : Nat} (hN : 100 ≤ N) : kAre N (⟨#[194, 171, 97, 194, 187, 32, 98]⟩ : ByteArray) (⟨#[48, 48, 48, 48, 49, 50]⟩ : ByteArray) = some true := by
  have e1 : runesX (⟨#[194, 171, 97, 194, 187, 32, 98]⟩ : ByteArray) = some [171, 97, 187, 32, 98] := by kernel_rfl
  have b1 : brk breakC wdC [171, 97, 187, 32, 98] = [0, 0, 0, 0, 1, 2] := by kernel_rfl
  unfold kAre
  rw [e1, Option.bind_some, pBreaks_ly (by omega) (by simp; omega) (by simp), Option.bind_some, b1]
  obtain ⟨k, rfl⟩ : ∃ k, N = k + 100 := ⟨N - 100, by omega⟩
  rfl
theorem are12 {N : Nat} (hN : 100 ≤ N) : kAre N (⟨#[97, 226, 128, 148, 98]⟩ : ByteArray) (⟨#[48, 49, 49, 50]⟩ : ByteArray) = some true := by
  have e1 : runesX (⟨#[97, 226, 128, 148, 98]⟩ : ByteArray) = some [97, 8212, 98] := by kernel_rfl
  have b1 : brk breakC wdC [97, 8212, 98] = [0, 1, 1, 2] := by kernel_rfl
  unfold kAre
  rw [e1, Option.bind_some, pBreaks_ly (by omega) (by simp; omega) (by simp), Option.bind_some, b1]
  obtain ⟨k, rfl⟩ : ∃ k, N = k + 100 := ⟨N - 100, by omega⟩
  rfl
theorem are13 {N : Nat} (hN : 100 ≤ N) : kAre N (⟨#[97, 32, 47, 32, 98]⟩ : ByteArray) (⟨#[48, 48, 48, 48, 49, 50]⟩ : ByteArray) = some true := by
  have e1 : runesX (⟨#[97, 32, 47, 32, 98]⟩ : ByteArray) = some [97, 32, 47, 32, 98] := by kernel_rfl
  have b1 : brk breakC wdC [97, 32, 47, 32, 98] = [0, 0, 0, 0, 1, 2] := by kernel_rfl
  unfold kAre
  rw [e1, Option.bind_some, pBreaks_ly (by omega) (by simp; omega) (by simp), Option.bind_some, b1]
  obtain ⟨k, rfl⟩ : ∃ k, N = k + 100 := ⟨N - 100, by omega⟩
  rfl
theorem are14 {N : Nat} (hN : 100 ≤ N) : kAre N (⟨#[97, 47, 98]⟩ : ByteArray) (⟨#[48, 48, 49, 50]⟩ : ByteArray) = some true := by
  have e1 : runesX (⟨#[97, 47, 98]⟩ : ByteArray) = some [97, 47, 98] := by kernel_rfl
  have b1 : brk breakC wdC [97, 47, 98] = [0, 0, 1, 2] := by kernel_rfl
  unfold kAre
  rw [e1, Option.bind_some, pBreaks_ly (by omega) (by simp; omega) (by simp), Option.bind_some, b1]
  obtain ⟨k, rfl⟩ : ∃ k, N = k + 100 := ⟨N - 100, by omega⟩
  rfl
theorem are15 {N : Nat} (hN : 100 ≤ N) : kAre N (⟨#[45, 49]⟩ : ByteArray) (⟨#[48, 48, 50]⟩ : ByteArray) = some true := by
  have e1 : runesX (⟨#[45, 49]⟩ : ByteArray) = some [45, 49] := by kernel_rfl
  have b1 : brk breakC wdC [45, 49] = [0, 0, 2] := by kernel_rfl
  unfold kAre
  rw [e1, Option.bind_some, pBreaks_ly (by omega) (by simp; omega) (by simp), Option.bind_some, b1]
  obtain ⟨k, rfl⟩ : ∃ k, N = k + 100 := ⟨N - 100, by omega⟩
  rfl
theorem are16 {N : Nat} (hN : 100 ≤ N) : kAre N (⟨#[120, 32, 45, 49]⟩ : ByteArray) (⟨#[48, 48, 49, 48, 50]⟩ : ByteArray) = some true := by
  have e1 : runesX (⟨#[120, 32, 45, 49]⟩ : ByteArray) = some [120, 32, 45, 49] := by kernel_rfl
  have b1 : brk breakC wdC [120, 32, 45, 49] = [0, 0, 1, 0, 2] := by kernel_rfl
  unfold kAre
  rw [e1, Option.bind_some, pBreaks_ly (by omega) (by simp; omega) (by simp), Option.bind_some, b1]
  obtain ⟨k, rfl⟩ : ∃ k, N = k + 100 := ⟨N - 100, by omega⟩
  rfl
theorem are17 {N : Nat} (hN : 100 ≤ N) : kAre N (⟨#[97, 194, 160, 98]⟩ : ByteArray) (⟨#[48, 48, 48, 50]⟩ : ByteArray) = some true := by
  have e1 : runesX (⟨#[97, 194, 160, 98]⟩ : ByteArray) = some [97, 160, 98] := by kernel_rfl
  have b1 : brk breakC wdC [97, 160, 98] = [0, 0, 0, 2] := by kernel_rfl
  unfold kAre
  rw [e1, Option.bind_some, pBreaks_ly (by omega) (by simp; omega) (by simp), Option.bind_some, b1]
  obtain ⟨k, rfl⟩ : ∃ k, N = k + 100 := ⟨N - 100, by omega⟩
  rfl
theorem are18 {N : Nat} (hN : 100 ≤ N) : kAre N (⟨#[97, 226, 129, 160, 32, 98]⟩ : ByteArray) (⟨#[48, 48, 48, 49, 50]⟩ : ByteArray) = some true := by
  have e1 : runesX (⟨#[97, 226, 129, 160, 32, 98]⟩ : ByteArray) = some [97, 8288, 32, 98] := by kernel_rfl
  have b1 : brk breakC wdC [97, 8288, 32, 98] = [0, 0, 0, 1, 2] := by kernel_rfl
  unfold kAre
  rw [e1, Option.bind_some, pBreaks_ly (by omega) (by simp; omega) (by simp), Option.bind_some, b1]
  obtain ⟨k, rfl⟩ : ∃ k, N = k + 100 := ⟨N - 100, by omega⟩
  rfl
theorem are19 {N : Nat} (hN : 100 ≤ N) : kAre N (⟨#[49, 44, 53]⟩ : ByteArray) (⟨#[48, 48, 48, 50]⟩ : ByteArray) = some true := by
  have e1 : runesX (⟨#[49, 44, 53]⟩ : ByteArray) = some [49, 44, 53] := by kernel_rfl
  have b1 : brk breakC wdC [49, 44, 53] = [0, 0, 0, 2] := by kernel_rfl
  unfold kAre
  rw [e1, Option.bind_some, pBreaks_ly (by omega) (by simp; omega) (by simp), Option.bind_some, b1]
  obtain ⟨k, rfl⟩ : ∃ k, N = k + 100 := ⟨N - 100, by omega⟩
  rfl
theorem are20 {N : Nat} (hN : 100 ≤ N) : kAre N (⟨#[97, 44, 53]⟩ : ByteArray) (⟨#[48, 48, 48, 50]⟩ : ByteArray) = some true := by
  have e1 : runesX (⟨#[97, 44, 53]⟩ : ByteArray) = some [97, 44, 53] := by kernel_rfl
  have b1 : brk breakC wdC [97, 44, 53] = [0, 0, 0, 2] := by kernel_rfl
  unfold kAre
  rw [e1, Option.bind_some, pBreaks_ly (by omega) (by simp; omega) (by simp), Option.bind_some, b1]
  obtain ⟨k, rfl⟩ : ∃ k, N = k + 100 := ⟨N - 100, by omega⟩
  rfl
theorem are21 {N : Nat} (hN : 100 ≤ N) : kAre N (⟨#[97, 32, 44, 53]⟩ : ByteArray) (⟨#[48, 48, 49, 48, 50]⟩ : ByteArray) = some true := by
  have e1 : runesX (⟨#[97, 32, 44, 53]⟩ : ByteArray) = some [97, 32, 44, 53] := by kernel_rfl
  have b1 : brk breakC wdC [97, 32, 44, 53] = [0, 0, 1, 0, 2] := by kernel_rfl
  unfold kAre
  rw [e1, Option.bind_some, pBreaks_ly (by omega) (by simp; omega) (by simp), Option.bind_some, b1]
  obtain ⟨k, rfl⟩ : ∃ k, N = k + 100 := ⟨N - 100, by omega⟩
  rfl
theorem are22 {N : Nat} (hN : 100 ≤ N) : kAre N (⟨#[239, 191, 188, 239, 191, 188]⟩ : ByteArray) (⟨#[48, 49, 50]⟩ : ByteArray) = some true := by
  have e1 : runesX (⟨#[239, 191, 188, 239, 191, 188]⟩ : ByteArray) = some [65532, 65532] := by kernel_rfl
  have b1 : brk breakC wdC [65532, 65532] = [0, 1, 2] := by kernel_rfl
  unfold kAre
  rw [e1, Option.bind_some, pBreaks_ly (by omega) (by simp; omega) (by simp), Option.bind_some, b1]
  obtain ⟨k, rfl⟩ : ∃ k, N = k + 100 := ⟨N - 100, by omega⟩
  rfl
theorem are23 {N : Nat} (hN : 100 ≤ N) : kAre N (⟨#[97, 226, 128, 141, 228, 184, 128]⟩ : ByteArray) (⟨#[48, 48, 48, 50]⟩ : ByteArray) = some true := by
  have e1 : runesX (⟨#[97, 226, 128, 141, 228, 184, 128]⟩ : ByteArray) = some [97, 8205, 19968] := by kernel_rfl
  have b1 : brk breakC wdC [97, 8205, 19968] = [0, 0, 0, 2] := by kernel_rfl
  unfold kAre
  rw [e1, Option.bind_some, pBreaks_ly (by omega) (by simp; omega) (by simp), Option.bind_some, b1]
  obtain ⟨k, rfl⟩ : ∃ k, N = k + 100 := ⟨N - 100, by omega⟩
  rfl
theorem are24 {N : Nat} (hN : 100 ≤ N) : kAre N (⟨#[226, 128, 156, 97, 226, 128, 157]⟩ : ByteArray) (⟨#[48, 48, 48, 50]⟩ : ByteArray) = some true := by
  have e1 : runesX (⟨#[226, 128, 156, 97, 226, 128, 157]⟩ : ByteArray) = some [8220, 97, 8221] := by kernel_rfl
  have b1 : brk breakC wdC [8220, 97, 8221] = [0, 0, 0, 2] := by kernel_rfl
  unfold kAre
  rw [e1, Option.bind_some, pBreaks_ly (by omega) (by simp; omega) (by simp), Option.bind_some, b1]
  obtain ⟨k, rfl⟩ : ∃ k, N = k + 100 := ⟨N - 100, by omega⟩
  rfl
theorem are25 {N : Nat} (hN : 100 ≤ N) : kAre N (⟨#[225, 132, 128, 225, 133, 161, 225, 134, 168, 234, 176, 128]⟩ : ByteArray) (⟨#[48, 48, 48, 49, 50]⟩ : ByteArray) = some true := by
  have e1 : runesX (⟨#[225, 132, 128, 225, 133, 161, 225, 134, 168, 234, 176, 128]⟩ : ByteArray) = some [4352, 4449, 4520, 44032] := by kernel_rfl
  have b1 : brk breakC wdC [4352, 4449, 4520, 44032] = [0, 0, 0, 1, 2] := by kernel_rfl
  unfold kAre
  rw [e1, Option.bind_some, pBreaks_ly (by omega) (by simp; omega) (by simp), Option.bind_some, b1]
  obtain ⟨k, rfl⟩ : ∃ k, N = k + 100 := ⟨N - 100, by omega⟩
  rfl
theorem knL_ok : (knL.all i32b) = true := by kernel_rfl
theorem kn_L2 {N : Nat} (hN : 2000 ≤ N) {i : Nat} (hi : i < 43) : ∀ (f j : Nat), 43 - j < f → fKnown_L2 N (i : Int) f (j : Int) = some (Ctl.go ())
  | 0, j, h => by omega
  | f + 1, j, hf => by
    have hlen : knL.length = 43 := rfl
    unfold fKnown_L2
    by_cases h : j < 43
    · have ha := getD_some (l := knL) (i := i) (by omega)
      have hb := getD_some (l := knL) (i := j) (by omega)
      have ka := List.all_eq_true.1 knL_ok _ (List.mem_iff_getElem?.2 ⟨i, ha⟩)
      have kb := List.all_eq_true.1 knL_ok _ (List.mem_iff_getElem?.2 ⟨j, hb⟩)
      have ih := kn_L2 hN hi f (j + 1) (by omega)
      rw [if_pos (by omega)]
      simp only [ix_nat ha, ix_nat hb, Option.bind_some]
      rw [w64s (by omega) (by omega), show (j : Int) + 1 = ((j + 1 : Nat) : Int) by omega, ih]
      generalize knL.getD i 0 = a at ka
      generalize knL.getD j 0 = b at kb
      have h1 : fBreaks N [a, b, 120, a, 32, b, 769, a] = some true := fBreaks_true hN (fun x hx => by
        simp only [List.mem_cons, List.not_mem_nil, or_false] at hx
        rcases hx with rfl | rfl | rfl | rfl | rfl | rfl | rfl | rfl <;> first | exact ka | exact kb | rfl)
      have h2 : fBreaks N [49, a, b, 49, 1488, a, b, 19968, a, b] = some true := fBreaks_true hN (fun x hx => by
        simp only [List.mem_cons, List.not_mem_nil, or_false] at hx
        rcases hx with rfl | rfl | rfl | rfl | rfl | rfl | rfl | rfl | rfl | rfl <;> first | exact ka | exact kb | rfl)
      rw [h1, Option.bind_some]
      simp only []
      rw [h2, Option.bind_some]
    · rw [if_neg (by omega)]
theorem kn_L1 {N : Nat} (hN : 2000 ≤ N) : ∀ (f i : Nat), 43 - i < f → fKnown_L1 N f (i : Int) = some (Ctl.go ())
  | 0, i, h => by omega
  | f + 1, i, hf => by
    have hlen : knL.length = 43 := rfl
    unfold fKnown_L1
    by_cases h : i < 43
    · have h2 := kn_L2 hN h N 0 (by omega)
      rw [show ((0 : Nat) : Int) = 0 from rfl] at h2
      have ih := kn_L1 hN f (i + 1) (by omega)
      rw [if_pos (by omega), h2, Option.bind_some]
      simp only []
      rw [w64s (by omega) (by omega), show (i : Int) + 1 = ((i + 1 : Nat) : Int) by omega, ih]
    · rw [if_neg (by omega)]
theorem kn_L3 {N : Nat} : ∀ (f i : Nat) (out : List Int), 399 - i < f → i ≤ 399 → out.length ≤ i → (∀ x ∈ out, i32b x = true) → ∃ r, fKnown_L3 N f out (i : Int) = some r ∧ ∀ x ∈ r, i32b x = true
  | 0, i, out, h, _, _, _ => by omega
  | f + 1, i, out, hf, hi, ho, hk => by
    unfold fKnown_L3
    by_cases h : i < 399
    · obtain ⟨y, hy, hyk⟩ : ∃ y, ix [127462, 32, 40, 49, 46] (Int.tmod (i : Int) 5) = some y ∧ i32b y = true := by
        rw [Int.tmod_eq_emod_of_nonneg (by omega)]
        have : (i : Int) % 5 = 0 ∨ (i : Int) % 5 = 1 ∨ (i : Int) % 5 = 2 ∨ (i : Int) % 5 = 3 ∨ (i : Int) % 5 = 4 := by omega
        rcases this with e | e | e | e | e <;> rw [e] <;> exact ⟨_, rfl, by kernel_rfl⟩
      rw [if_pos (by omega), hy, Option.bind_some, apx_ok (by simp; omega), Option.bind_some, w64s (by omega) (by omega), show (i : Int) + 1 = ((i + 1 : Nat) : Int) by omega]
      exact kn_L3 f (i + 1) (out ++ [y]) (by omega) (by omega) (by simp; omega) (fun x hx => by
        rcases List.mem_append.1 hx with hx | hx
        · exact hk x hx
        · rw [List.mem_singleton.1 hx]; exact hyk)
    · rw [if_neg (by omega)]
      exact ⟨out, rfl, hk⟩
theorem fKnown_true : ∃ N, fKnown N = some true := by
  refine ⟨2000, ?_⟩
  have h1 := kn_L1 (N := 2000) (by omega) 2000 0 (by omega)
  obtain ⟨r, h3, hr⟩ := kn_L3 (N := 2000) 2000 0 [] (by omega) (by omega) (by simp) (by simp)
  rw [show ((0 : Nat) : Int) = 0 from rfl] at h1 h3
  have hb := fBreaks_true (N := 2000) (l := r) (by omega) hr
  have hm := fMarks_true (N := 2000) (l := [97, 45, 1488, 32, 8205, 49]) (which := 2) (by omega) (fun x hx => by
    simp only [List.mem_cons, List.not_mem_nil, or_false] at hx
    rcases hx with rfl | rfl | rfl | rfl | rfl | rfl <;> rfl) (by omega) (by omega)
  unfold fKnown
  simp only [are0 (N := 2000) (by omega), are1 (N := 2000) (by omega), are2 (N := 2000) (by omega), are3 (N := 2000) (by omega), are4 (N := 2000) (by omega), are5 (N := 2000) (by omega), are6 (N := 2000) (by omega), are7 (N := 2000) (by omega), are8 (N := 2000) (by omega), are9 (N := 2000) (by omega), are10 (N := 2000) (by omega), are11 (N := 2000) (by omega), are12 (N := 2000) (by omega), are13 (N := 2000) (by omega), are14 (N := 2000) (by omega), are15 (N := 2000) (by omega), are16 (N := 2000) (by omega), are17 (N := 2000) (by omega), are18 (N := 2000) (by omega), are19 (N := 2000) (by omega), are20 (N := 2000) (by omega), are21 (N := 2000) (by omega), are22 (N := 2000) (by omega), are23 (N := 2000) (by omega), are24 (N := 2000) (by omega), are25 (N := 2000) (by omega), Option.bind_some, h1, h3, hb, hm, kWorks_true (N := 2000) (by omega)]
end Go.Proofs.YtdbimchiecdkoaaGreat
