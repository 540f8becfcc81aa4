/-
  SegmentParagraphs, by lists.
-/
import Derived.Test.YtdbimchiecdkoaaSV
import Derived.Test.YtdbimchiecdkoaaFParagraphs
namespace Go.Proofs.Ytdbimchiecdkoaa
open Go Go.RowKit Sg
set_option linter.unusedVariables false
set_option linter.unusedSimpArgs false
theorem para_L1 {N : Nat} {a g x : List Int} (hl : a.length ≤ 400) (h : ∀ i, i < a.length → ∃ v, g[i]? = some v ∧ x[i]? = some v) : ∀ (f i : Nat), a.length - i < f → fParagraphs_L1 N a g x f (i : Int) = some (Ctl.go ())
  | 0, i, h => by omega
  | f + 1, i, hf => by
    unfold fParagraphs_L1
    by_cases hi : i < a.length
    · obtain ⟨v, h1, h2⟩ := h i hi
      have ih := para_L1 (N := N) hl h f (i + 1) (by omega)
      rw [if_pos (by omega), ix_nat h1, Option.bind_some, ix_nat h2, Option.bind_some, if_neg (fun h => h rfl), w64s (by omega) (by omega), show (i : Int) + 1 = ((i + 1 : Nat) : Int) by omega, ih]
    · rw [if_neg (by omega)]
theorem para_L2 {N : Nat} {a b g x : List Int} (ha : a.length ≤ 400) (hl : b.length ≤ 400) (h : ∀ i, 1 ≤ i → i ≤ b.length → ∃ v, g[a.length + 1 + i]? = some v ∧ x[i]? = some v) : ∀ (f i : Nat), 1 ≤ i → b.length + 1 - i < f → fParagraphs_L2 N a b g x f (i : Int) = some (Ctl.go ())
  | 0, i, _, h => by omega
  | f + 1, i, h0, hf => by
    unfold fParagraphs_L2
    by_cases hi : i ≤ b.length
    · obtain ⟨v, h1, h2⟩ := h i h0 hi
      have ih := para_L2 (N := N) ha hl h f (i + 1) (by omega) (by omega)
      have e : IntKind.i64.wrap (IntKind.i64.wrap ((a.length : Int) + 1) + (i : Int)) = ((a.length + 1 + i : Nat) : Int) := by
        rw [w64s (x := (a.length : Int) + 1) (by omega) (by omega), w64s (by omega) (by omega)]; omega
      rw [if_pos (by omega), e, ix_nat h1, Option.bind_some, ix_nat h2, Option.bind_some, if_neg (fun h => h rfl), w64s (by omega) (by omega), show (i : Int) + 1 = ((i + 1 : Nat) : Int) by omega, ih]
    · rw [if_neg (by omega)]
theorem end_facts (sep : Bool) : ∀ e, e = (if sep then (8233 : Int) else 10) → En (nw breakC wdC e) ∧ Sg.mark (breakC e) = false ∧ spaced (breakC e) = true ∧ (nw breakC wdC e).1 = if sep then 1 else 3 := by
  intro e he
  subst he
  have h1 : breakC 8233 = 1 := by kernel_rfl
  have h2 : breakC 10 = 3 := by kernel_rfl
  have h3 : wdC 8233 = false := by kernel_rfl
  have h4 : wdC 10 = false := by kernel_rfl
  cases sep
  · simp only [Bool.false_eq_true, if_false, En, nw, h2, h4]; decide
  · simp only [if_true, En, nw, h1, h3]; decide
theorem betw_sep (sep : Bool) (a : List Int) (ha : a ≠ []) (e : Int) (he : e = if sep then (8233 : Int) else 10) : betw (uns breakC wdC a).reverse [nw breakC wdC e] =
    (let c := breakC (a.getLast?.getD 0); if sep then (if c = 1 then 2 else if c = 4 then 2 else if c = 3 then 2 else if c = 2 then 2 else 0) else (if c = 1 then 2 else if c = 4 then 2 else if c = 3 then 2 else 0)) := by
  obtain ⟨h1, h2, h3, h4⟩ := end_facts sep e he
  rw [betw_end h1, h4]
  have l1 := last_uns (cls := breakC) (wd := wdC) (l := a) (c := 1) (by omega) ha
  have l2 := last_uns (cls := breakC) (wd := wdC) (l := a) (c := 2) (by omega) ha
  have l3 := last_uns (cls := breakC) (wd := wdC) (l := a) (c := 3) (by omega) ha
  have l4 := last_uns (cls := breakC) (wd := wdC) (l := a) (c := 4) (by omega) ha
  generalize at0 (uns breakC wdC a).reverse = x at *
  generalize breakC (a.getLast?.getD 0) = c at *
  cases sep
  · simp only [Bool.false_eq_true, if_false]
    by_cases e1 : c = 1
    · have := l1.2 e1; simp [*]
    · by_cases e2 : c = 2
      · have := l2.2 e2; simp [*]
      · by_cases e3 : c = 3
        · have := l3.2 e3; simp [*]
        · by_cases e4 : c = 4
          · have := l4.2 e4; simp [*]
          · have n1 : x ≠ 1 := fun h => e1 (l1.1 h)
            have n2 : x ≠ 2 := fun h => e2 (l2.1 h)
            have n3 : x ≠ 3 := fun h => e3 (l3.1 h)
            have n4 : x ≠ 4 := fun h => e4 (l4.1 h)
            simp [e1, e3, e4, n1, n2, n3, n4]
  · simp only [if_true]
    by_cases e1 : c = 1
    · have := l1.2 e1; simp [*]
    · by_cases e2 : c = 2
      · have := l2.2 e2; simp [*]
      · by_cases e3 : c = 3
        · have := l3.2 e3; simp [*]
        · by_cases e4 : c = 4
          · have := l4.2 e4; simp [*]
          · have n1 : x ≠ 1 := fun h => e1 (l1.1 h)
            have n2 : x ≠ 2 := fun h => e2 (l2.1 h)
            have n3 : x ≠ 3 := fun h => e3 (l3.1 h)
            have n4 : x ≠ 4 := fun h => e4 (l4.1 h)
            simp [e1, e2, e3, e4, n1, n2, n3, n4]
theorem fParagraphs_true {N : Nat} {a b : List Int} {sep : Bool} (hN : 2000 ≤ N) : fParagraphs N a b sep = some true := by
  unfold fParagraphs
  rw [kWorks_true (by omega)]
  by_cases ha : (a.length : Int) > 200
  · rw [if_pos ha]; rfl
  by_cases hb : (b.length : Int) > 200
  · rw [if_neg ha, if_pos hb]; rfl
  rw [if_neg ha, if_neg hb]
  simp only [Option.bind_some]
  obtain ⟨e, he⟩ : ∃ e, e = if sep then (8233 : Int) else 10 := ⟨_, rfl⟩
  obtain ⟨h1, h2, h3, h4⟩ := end_facts sep e he
  obtain ⟨x, hx, hxe⟩ := brk_end h1 h2 h3 a b
  have hla := brk_len' a
  have hlb := brk_len' b
  have hlg := brk_len' (a ++ e :: b)
  have hba : (body [] (uns breakC wdC a)).length = a.length := by
    have : brk breakC wdC a = body [] (uns breakC wdC a) ++ [2] := rfl
    rw [this, List.length_append, List.length_singleton] at hla; omega
  refine Eq.trans (congrArg (fun z => Option.bind z _) (show _ = some e by subst he; cases sep <;> rfl)) ?_
  rw [Option.bind_some, apx_ok (by simp; omega), Option.bind_some, List.nil_append, apx_ok (by simp; omega), Option.bind_some, apx_ok (by simp; omega), Option.bind_some, List.append_assoc, List.singleton_append,
    pBreaks_ly (by omega) (by simp; omega) (by simp; omega), Option.bind_some, pBreaks_ly (by omega) (by omega) (by omega), Option.bind_some, pBreaks_ly (by omega) (by omega) (by omega), Option.bind_some]
  rw [hla, hlb, hlg]
  have hlen : (a ++ e :: b).length = a.length + 1 + b.length := by simp; omega
  rw [hlen, w64s (by omega) (by omega), w64s (by omega) (by omega), w64s (by omega) (by omega)]
  rw [if_neg (by omega), if_neg (by omega)]
  simp only [Option.bind_some]
  rw [if_neg (by omega)]
  simp only [Option.bind_some]
  have g1 : ∀ i, i < a.length → ∃ v, (brk breakC wdC (a ++ e :: b))[i]? = some v ∧ (brk breakC wdC a)[i]? = some v := by
    intro i hi
    rw [hx, List.getElem?_append_left (by omega)]
    have : brk breakC wdC a = body [] (uns breakC wdC a) ++ [2] := rfl
    rw [this, List.getElem?_append_left (by omega)]
    exact ⟨_, getD_some (by omega), getD_some (by omega)⟩
  have g2 : (brk breakC wdC (a ++ e :: b))[a.length]? = some x := by
    rw [hx, List.getElem?_append_right (by omega), hba, Nat.sub_self]; rfl
  have g3 : (brk breakC wdC (a ++ e :: b))[a.length + 1]? = some 2 := by
    rw [hx, List.getElem?_append_right (by omega), hba, Nat.add_sub_cancel_left]; rfl
  have g4 : ∀ i, 1 ≤ i → i ≤ b.length → ∃ v, (brk breakC wdC (a ++ e :: b))[a.length + 1 + i]? = some v ∧ (brk breakC wdC b)[i]? = some v := by
    intro i h1 h2
    have hbi := getD_some (l := brk breakC wdC b) (i := i) (by omega)
    refine ⟨_, ?_, hbi⟩
    rw [hx, List.getElem?_append_right (by omega), hba, show a.length + 1 + i - a.length = (i - 1) + 1 + 1 by omega, List.getElem?_cons_succ, List.getElem?_cons_succ, List.getElem?_tail, show i - 1 + 1 = i by omega]
    exact hbi
  have L1 := para_L1 (N := N) (by omega) g1 N 0 (by omega)
  have L2 := para_L2 (N := N) (by omega) (by omega) g4 N 1 (by omega) (by omega)
  rw [show ((0 : Nat) : Int) = 0 from rfl] at L1
  rw [show ((1 : Nat) : Int) = 1 from rfl] at L2
  rw [L1]
  simp only [Option.bind_some]
  have hcast : (a.length : Int) + 1 = ((a.length + 1 : Nat) : Int) := by omega
  have hu : ∀ z, ucBk N z = some (breakC z) := fun _ => rfl
  rw [ix_nat g2, hcast, ix_nat g3, L2]
  by_cases hn : a = []
  · subst hn
    rw [if_pos rfl] at hxe
    subst hxe
    cases sep <;> simp
  · rw [if_neg hn, betw_sep sep a hn e he] at hxe
    have hpos : 0 < a.length := List.length_pos_iff.2 hn
    have hlast : ix a (IntKind.i64.wrap ((a.length : Int) - 1)) = some (a.getLast?.getD 0) := by
      rw [w64s (by omega) (by omega), show (a.length : Int) - 1 = ((a.length - 1 : Nat) : Int) by omega]
      refine ix_nat ?_
      rw [List.getLast?_eq_getElem?, getD_some (by omega)]; rfl
    rw [hlast]
    simp only [Option.bind_some, hu]
    have hp : ((a.length : Int) > 0) := by omega
    simp only at hxe
    generalize breakC (a.getLast?.getD 0) = c at hxe ⊢
    cases sep
    · simp only [hp, if_true, Option.bind_some]
      simp only [Bool.false_eq_true, if_false] at hxe
      by_cases c1 : c = 1
      · simp [c1] at hxe ⊢; simp [hxe]
      · by_cases c4 : c = 4
        · simp [c4] at hxe ⊢; simp [hxe]
        · by_cases c3 : c = 3
          · simp [c3] at hxe ⊢; simp [hxe]
          · simp [c1, c3, c4] at hxe ⊢; simp [hxe]
    · simp only [hp, if_true, Option.bind_some]
      simp only [if_true] at hxe
      by_cases c1 : c = 1
      · simp [c1] at hxe ⊢; simp [hxe]
      · by_cases c4 : c = 4
        · simp [c4] at hxe ⊢; simp [hxe]
        · by_cases c3 : c = 3
          · simp [c3] at hxe ⊢; simp [hxe]
          · by_cases c2 : c = 2
            · simp [c2] at hxe ⊢; simp [hxe]
            · simp [c1, c2, c3, c4] at hxe ⊢; simp [hxe]
theorem fParagraphs_true' (x y : List Int) (b : Bool) : ∃ N, fParagraphs N x y b = some true := ⟨2000, fParagraphs_true (Nat.le_refl _)⟩
end Go.Proofs.Ytdbimchiecdkoaa
