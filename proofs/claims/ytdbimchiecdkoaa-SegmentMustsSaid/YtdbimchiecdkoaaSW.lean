/-
  SegmentMusts, by lists.
-/
import Derived.Test.YtdbimchiecdkoaaSV
import Derived.Test.YtdbimchiecdkoaaSg3
import Derived.Test.YtdbimchiecdkoaaFMusts
namespace Go.Proofs.Ytdbimchiecdkoaa
open Go Go.RowKit Sg
set_option linter.unusedVariables false
set_option linter.unusedSimpArgs false
theorem each_ix : ∀ (x : Int) (l t : List Int), Sg.Each breakC (breakC x) l t → ∀ i, i < l.length → ∃ v, t[i]? = some v ∧ MustAt (breakC ((x :: l).getD i 0)) (breakC (l.getD i 0)) v
  | _, [], _, _, i, hi => by simp at hi
  | x, y :: l, [], h, _, _ => by cases h
  | x, y :: l, v :: t, h, i, hi => by
    obtain ⟨h1, h2⟩ := h
    cases i with
    | zero => exact ⟨v, rfl, h1⟩
    | succ i =>
      obtain ⟨w, hw, hm⟩ := each_ix y l t h2 i (by simpa using hi)
      exact ⟨w, by simpa using hw, by simpa using hm⟩
theorem musts_L1 {N : Nat} {l b : List Int} (hl : l.length ≤ 400) (hb : ∀ i, i < l.length → ∃ v, b[i]? = some v ∧ (i = 0 → v = 0) ∧ (0 < i → MustAt (breakC (l.getD (i - 1) 0)) (breakC (l.getD i 0)) v)) :
    ∀ (f i : Nat), l.length - i < f → fMusts_L1 N l b f (i : Int) = some (Ctl.go ())
  | 0, i, h => by omega
  | f + 1, i, hf => by
    unfold fMusts_L1
    by_cases h : i < l.length
    · obtain ⟨v, hv, hv0, hvm⟩ := hb i h
      have ih := musts_L1 (N := N) hl hb f (i + 1) (by omega)
      have e : IntKind.i64.wrap ((i : Int) + 1) = ((i + 1 : Nat) : Int) := by rw [w64s (by omega) (by omega)]; omega
      have hu : ∀ z, ucBk N z = some (breakC z) := fun _ => rfl
      rw [if_pos (by omega), ix_nat (getD_some h), Option.bind_some, hu, Option.bind_some, ix_nat hv, e, ih]
      simp only [Option.bind_some]
      by_cases hi : i = 0
      · subst hi
        obtain rfl := hv0 rfl
        simp
      · have hm := hvm (by omega)
        have e2 : IntKind.i64.wrap ((i : Int) - 1) = ((i - 1 : Nat) : Int) := by rw [w64s (by omega) (by omega)]; omega
        rw [if_pos (by omega), e2, ix_nat (getD_some (show i - 1 < l.length by omega)), Option.bind_some, hu, Option.bind_some]
        have hi' : ¬ ((i : Int) = 0) := by omega
        generalize breakC (l.getD (i - 1) 0) = a at hm ⊢
        generalize breakC (l.getD i 0) = c at hm ⊢
        obtain ⟨m1, m2, m3, m4⟩ := hm
        by_cases m : must a c
        · obtain rfl := m1.2 m
          unfold must at m
          rcases m with m | m | m | ⟨m, m'⟩ <;> simp [*]
        · have hv2 : v ≠ 2 := fun e => m (m1.1 e)
          have m5 := m4 m
          unfold must at m
          simp only [not_or, not_and, Classical.not_not] at m
          obtain ⟨n1, n4, n3, n2⟩ := m
          have hv01 : v = 0 ∨ v = 1 := by omega
          rcases hv01 with rfl | rfl
          · by_cases h2 : a = 2
            · have := n2 h2; simp [*]; rfl
            · simp [*]; rfl
          · have hs := m5 (by decide)
            simp only [spaced, Bool.or_eq_false_iff, beq_eq_false_iff_ne] at hs
            by_cases h2 : a = 2
            · have := n2 h2; omega
            · simp [*]; rfl
    · rw [if_neg (by omega)]
theorem fMusts_true {N : Nat} {l : List Int} (hN : 2000 ≤ N) : fMusts N l = some true := by
  unfold fMusts
  rw [kWorks_true (by omega)]
  by_cases h : (l.length : Int) > 400
  · rw [if_pos h]; rfl
  rw [if_neg h, pBreaks_ly (by omega) (by omega) (by omega), Option.bind_some, brk_len', w64s (by omega) (by omega), if_neg (by omega), ix_nat (brk_last l), Option.bind_some, if_neg (by decide), Option.bind_some]
  have hb : ∀ i, i < l.length → ∃ v, (brk breakC wdC l)[i]? = some v ∧ (i = 0 → v = 0) ∧ (0 < i → MustAt (breakC (l.getD (i - 1) 0)) (breakC (l.getD i 0)) v) := by
    intro i hi
    cases l with
    | nil => simp at hi
    | cons x t =>
      obtain ⟨z, hz, hz2, hz3⟩ := brk_musts (cls := breakC) (wd := wdC) x t
      rw [hz]
      cases i with
      | zero => exact ⟨0, rfl, fun _ => rfl, fun h => by omega⟩
      | succ i =>
        have hi' : i < t.length := by simpa using hi
        obtain ⟨v, hv, hm⟩ := each_ix x t z hz3 i hi'
        refine ⟨v, ?_, fun h => by omega, fun _ => by simpa using hm⟩
        rw [List.getElem?_cons_succ, List.getElem?_append_left (by omega)]; exact hv
  have := musts_L1 (N := N) (by omega) hb N 0 (by omega)
  rw [show ((0 : Nat) : Int) = 0 from rfl] at this
  rw [this]; rfl
theorem fMusts_true' (x : List Int) : ∃ N, fMusts N x = some true := ⟨2000, fMusts_true (Nat.le_refl _)⟩
end Go.Proofs.Ytdbimchiecdkoaa
