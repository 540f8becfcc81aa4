/-
  EmbedPlain is true, by lists.
-/
import Derived.Test.YtapfdafmhiilkaaE6
import Derived.Test.YtapfdafmhiilkaaFPlain
namespace Go.Proofs.Ytapfdafmhiilkaa
open Go Go.RowKit
set_option linter.unusedVariables false
set_option linter.unusedSectionVars false
set_option linter.unusedSimpArgs false

def isPl (c : Int) : Bool := decide ((1 ≤ c ∧ c ≤ 14) ∨ c = 23 ∨ c = 19)

theorem filter_loop (N : Nat) (l : List Int) (hl : l.length ≤ 400000000) : ∀ (k i : Nat) (a : List Int), l.length - i < k → i ≤ l.length → a.length ≤ i → fPlain_L1 N l k a (i : Int) = some (a ++ (l.drop i).filter isPl)
  | 0, _, _, h, _, _ => absurd h (Nat.not_lt_zero _)
  | k + 1, i, a, hk, hi, ha => by
    unfold fPlain_L1
    by_cases hn : i < l.length
    · rw [if_pos (by omega), drop_e hn]
      simp only [ixe hn, Option.bind_some, wne i (by omega)]
      generalize l.getD i 0 = c
      have hb : ((((if c ≥ 1 then (if c ≤ 14 then some (true) else some (false)) else some (false)) : Option (Bool)).bind fun b71 => (((match b71 with | true => some (true) | false => (if c = 23 then some (true) else some (false))) : Option (Bool)).bind fun b83 => (match b83 with | true => some (true) | false => (if c = 19 then some (true) else some (false))))) : Option Bool) = some (isPl c) := by
        unfold isPl
        by_cases h1 : 1 ≤ c ∧ c ≤ 14
        · rw [if_pos h1.1, if_pos h1.2, decide_eq_true (.inl h1)]; rfl
        · have h2 : (if c ≥ 1 then (if c ≤ 14 then some (true) else some (false)) else some (false) : Option Bool) = some false := by
            by_cases h3 : c ≥ 1
            · rw [if_pos h3, if_neg (by omega)]
            · rw [if_neg h3]
          rw [h2]
          simp only [Option.bind_some]
          by_cases h3 : c = 23
          · rw [if_pos h3, decide_eq_true (.inr (.inl h3))]; rfl
          · rw [if_neg h3]
            simp only [Option.bind_some]
            by_cases h4 : c = 19
            · rw [if_pos h4, decide_eq_true (.inr (.inr h4))]
            · rw [if_neg h4, decide_eq_false (by omega)]
      refine (congrArg (fun z => Option.bind z _) hb).trans ?_
      simp only [Option.bind_some]
      cases hp : isPl c with
      | true =>
        rw [apx_to a [c] (by simp; omega)]
        simp only [Option.bind_some]
        rw [filter_loop N l hl k (i + 1) (a ++ [c]) (by omega) (by omega) (by simp; omega), List.filter_cons, if_pos hp]
        simp
      | false =>
        rw [filter_loop N l hl k (i + 1) a (by omega) (by omega) (by omega), List.filter_cons, if_neg (by rw [hp]; simp)]
    · rw [if_neg (by omega), List.drop_eq_nil_of_le (by omega)]; simp

theorem plain_loop (N : Nat) (l : List Int) (n : Int) (hl : l.length ≤ 900000000) : ∀ (k i : Nat), l.length - i < k → i ≤ l.length → fPlain_L2 N l (l.map fun _ => n) (l.map fun c => if c = 19 then 10 else c) n k (i : Int) = some (Ctl.go ())
  | 0, _, h, _ => absurd h (Nat.not_lt_zero _)
  | k + 1, i, hk, hi => by
    unfold fPlain_L2
    by_cases hn : i < l.length
    · have ih := plain_loop N l n hl k (i + 1) (by omega) (by omega)
      rw [if_pos (by omega)]
      have e1 : ix (l.map fun _ => n) (i : Int) = some n := by rw [ixe (by simpa using hn)]; simp [List.getD_eq_getElem?_getD, hn]
      have e2 : ix (l.map fun c => if c = 19 then 10 else c) (i : Int) = some (if l.getD i 0 = 19 then 10 else l.getD i 0) := by rw [ixe (by simpa using hn)]; simp [List.getD_eq_getElem?_getD, hn]
      simp only [e1, e2, ixe hn, Option.bind_some, wne i (by omega)]
      generalize l.getD i 0 = c
      rw [if_neg (fun e => e rfl)]
      by_cases h19 : c = 19
      · simp [h19]; exact ih
      · simp [h19]; exact ih
    · rw [if_neg (by omega)]

theorem fPlain_true (l : List Int) (b : Int) (hb : 0 ≤ b ∧ b ≤ 255) : ∃ N, fPlain N l b = some true := by
  refine ⟨10000, ?_⟩
  unfold fPlain
  by_cases c1 : 2000 < l.length
  · rw [if_pos (by omega), kWorks_eq _ (by omega)]; rfl
  rw [if_neg (by omega)]
  by_cases c2 : 2 < b
  · rw [if_pos c2, kWorks_eq _ (by omega)]; rfl
  rw [if_neg c2]
  simp only [Option.bind_some]
  have hf := filter_loop 10000 l (by omega) 10000 0 [] (by omega) (Nat.zero_le _) (Nat.le_refl _)
  rw [show ((0 : Nat) : Int) = 0 from rfl, List.drop_zero, List.nil_append] at hf
  rw [hf]
  simp only [Option.bind_some]
  have hfl : (l.filter isPl).length ≤ l.length := List.length_filter_le _ _
  have hpl : ∀ c ∈ l.filter isPl, (1 ≤ c ∧ c ≤ 14) ∨ c = 23 ∨ c = 19 := fun c hc => by
    have := (List.mem_filter.1 hc).2
    exact of_decide_eq_true this
  generalize l.filter isPl = m at hfl hpl
  have hok : m.all okC = true := by
    rw [List.all_eq_true]
    intro c hc
    have := hpl c hc
    exact decide_eq_true (by omega)
  rw [pLevels_eq 10000 m b hb (by omega) (by omega), levels_eq (by omega) hok (by omega)]
  have hn := baseS_in m b ⟨hb.1, by omega⟩
  have hbs : (b = 2 → baseS m b = if rightw false 0 m = true then 1 else 0) ∧ (b ≠ 2 → baseS m b = b) := by
    unfold baseS
    exact ⟨fun h => by rw [if_pos h], fun h => by rw [if_neg h]⟩
  generalize baseS m b = n at hn hbs
  simp only [Option.bind_some]
  rw [plain_run m hpl, if_neg (by decide), if_neg (by simp), if_neg (by simp)]
  simp only [List.map_map, Function.comp_def]
  have h := plain_loop 10000 m n (by omega) 10000 0 (by omega) (Nat.zero_le _)
  rw [show ((0 : Nat) : Int) = 0 from rfl] at h
  by_cases h2 : b = 2
  · rw [if_neg (by omega), if_pos h2, pBase_eq 10000 m (by omega) (by omega)]
    simp only [Option.bind_some]
    rw [if_neg (fun e => e (hbs.1 h2))]
    simp only [Option.bind_some]
    rw [h]
    simp only [Option.bind_some]
    rw [kWorks_eq _ (by omega)]
    rfl
  · rw [if_pos (by omega), if_neg (fun e => e (hbs.2 h2)), if_neg h2]
    simp only [Option.bind_some]
    rw [h]
    simp only [Option.bind_some]
    rw [kWorks_eq _ (by omega)]
    rfl
end Go.Proofs.Ytapfdafmhiilkaa
