/-
  The features, record by record: the program's and the document's.
-/
import Derived.Test.YtgjlpiljacecpaaLy
namespace Go.Proofs.Ytgjlpiljacecpaa
open Go Go.RowKit
set_option linter.unusedVariables false
set_option linter.unusedSectionVars false
set_option linter.unusedSimpArgs false
abbrev Fe := (Int × Int × Int × Int) × List Int
def tagR (b : List Int) (p : Int) : Int × Int × Int × Int := (b.getD p.toNat 0, b.getD (p + 1).toNat 0, b.getD (p + 2).toNat 0, b.getD (p + 3).toNat 0)
def specF (b : List Int) (p1 p2 : Int) : Nat → Nat → List Fe → Option (List Fe)
  | 0, _, acc => some acc
  | n + 1, i, acc => match resF b (p1 + rdv b (p1 + 2 + 6 * (i : Nat) + 4)) p2 with
    | some r => specF b p1 p2 n (i + 1) (acc ++ [(tagR b (p1 + 2 + 6 * (i : Nat)), r)])
    | none => none
theorem byte_eq (N : Nat) (b : List Int) (q : Bool) (p : Int) (hb : b.length ≤ 1000000000) (h : 0 ≤ p ∧ p + 1 ≤ (b.length : Int)) : qByte N b q p = some (b.getD p.toNat 0, q) := by
  unfold qByte
  rw [has_eq N b q p 1 1 hb (.inl rfl), Option.bind_some]
  have : hasB b p 1 1 = true := by unfold hasB; exact decide_eq_true (by omega)
  rw [this]
  simp only
  rw [ix_eq (by omega) (by omega), Option.bind_some]
  simp
theorem tag_eq (N : Nat) (b : List Int) (p : Int) (hb : b.length ≤ 1000000) (h : 0 ≤ p ∧ p + 4 ≤ (b.length : Int)) : qTag N b false p = some ((tagR b p).1, (tagR b p).2.1, (tagR b p).2.2.1, (tagR b p).2.2.2, false) := by
  unfold qTag tagR
  rw [zw64 (x := p + 1) (by omega) (by omega), zw64 (x := p + 2) (by omega) (by omega), zw64 (x := p + 3) (by omega) (by omega),
    byte_eq N b false p (by omega) (by omega), Option.bind_some]
  simp only
  rw [byte_eq N b false (p + 1) (by omega) (by omega), Option.bind_some]
  simp only
  rw [byte_eq N b false (p + 2) (by omega) (by omega), Option.bind_some]
  simp only
  rw [byte_eq N b false (p + 3) (by omega) (by omega), Option.bind_some]
section
variable (N : Nat) (b : List Int) (p1 p2 : Int) (n : Nat) (hU : U8 b) (hb : b.length ≤ 3000) (hN : 1000000 < N) (h1 : 0 ≤ p1 ∧ p1 ≤ 3000) (hn : n ≤ 512)
include hU hb hN h1 hn
theorem prog_in (hw : p1 + 2 + 6 * (n : Int) ≤ (b.length : Int)) : ∀ (k i : Nat) (acc : List Fe), n - i < k → i ≤ n → acc.length ≤ i →
    (∀ l, specF b p1 p2 (n - i) i acc = some l → qFeats_L1 N b p1 p2 (n : Int) k false acc (i : Int) = some (Ctl.go (false, l)) ∧ l.length ≤ n) ∧ (specF b p1 p2 (n - i) i acc = none → ∃ q', qFeats_L1 N b p1 p2 (n : Int) k false acc (i : Int) = some (Ctl.ret ([], 50, q')))
  | 0, _, _, h, _, _ => absurd h (Nat.not_lt_zero _)
  | k + 1, i, acc, hk, hi, ha => by
    unfold qFeats_L1
    rw [zw64 (x := ((n : Nat) : Int)) (by omega) (by omega)]
    by_cases h : i < n
    · rw [if_pos (by omega), zw64 (x := p1 + 2) (by omega) (by omega), zw64 (x := (6 : Int) * (i : Int)) (by omega) (by omega), zw64 (x := p1 + 2 + 6 * (i : Int)) (by omega) (by omega), zw64 (x := p1 + 2 + 6 * (i : Int) + 4) (by omega) (by omega), word_eq N b false _ hU (by omega), Option.bind_some]
      have hwd : hasB b (p1 + 2 + 6 * (i : Int) + 4) 1 2 = true := by unfold hasB; exact decide_eq_true (by omega)
      have hr := rdv_in hU (p1 + 2 + 6 * (i : Int) + 4)
      rw [hwd]
      simp only [Bool.not_true, Bool.or_false]
      rw [zw64 (x := rdv b (p1 + 2 + 6 * (i : Int) + 4)) (by omega) (by omega), zw64 (x := p1 + rdv b (p1 + 2 + 6 * (i : Int) + 4)) (by omega) (by omega), show n - i = (n - (i + 1)) + 1 by omega]
      obtain ⟨f1, f2⟩ := feat_eq N b false (p1 + rdv b (p1 + 2 + 6 * (i : Int) + 4)) p2 hU (by omega) (by omega) hN
      unfold specF
      cases hres : resF b (p1 + rdv b (p1 + 2 + 6 * (i : Int) + 4)) p2 with
      | none =>
        obtain ⟨q', e⟩ := f2 (.inr hres)
        simp only
        rw [e, Option.bind_some]
        exact ⟨fun l h => (by cases h), fun _ => ⟨q', rfl⟩⟩
      | some r =>
        simp only
        rw [f1 r rfl hres, Option.bind_some]
        simp only
        rw [tag_eq N b _ (by omega) (by omega), Option.bind_some]
        simp only
        have hap : ∀ x : Fe, apg acc [x] = some (acc ++ [x]) := fun x => by unfold apg; rw [if_pos (by show acc.length + 1 ≤ _; omega)]
        rw [hap, Option.bind_some, zwp i (by omega)]
        exact prog_in hw k (i + 1) _ (by omega) (by omega) (by rw [List.length_append]; show acc.length + 1 ≤ _; omega)
    · rw [if_neg (by omega), show n - i = 0 by omega]
      unfold specF
      refine ⟨fun l hl => ?_, fun h => by cases h⟩
      injection hl with hl
      subst hl
      exact ⟨rfl, by omega⟩
theorem prog_out (hw : ¬ p1 + 2 + 6 * (n : Int) ≤ (b.length : Int)) : ∀ (k i : Nat) (acc : List Fe), n - i < k → i < n → acc.length ≤ i →
    ∃ q', qFeats_L1 N b p1 p2 (n : Int) k false acc (i : Int) = some (Ctl.ret ([], 50, q'))
  | 0, _, _, h, _, _ => absurd h (Nat.not_lt_zero _)
  | k + 1, i, acc, hk, hi, ha => by
    unfold qFeats_L1
    have hr := rdv_in hU (p1 + 2 + 6 * (i : Int) + 4)
    rw [zw64 (x := ((n : Nat) : Int)) (by omega) (by omega), if_pos (by omega), zw64 (x := p1 + 2) (by omega) (by omega), zw64 (x := (6 : Int) * (i : Int)) (by omega) (by omega), zw64 (x := p1 + 2 + 6 * (i : Int)) (by omega) (by omega), zw64 (x := p1 + 2 + 6 * (i : Int) + 4) (by omega) (by omega), word_eq N b false _ hU (by omega), Option.bind_some]
    simp only
    rw [zw64 (x := rdv b (p1 + 2 + 6 * (i : Int) + 4)) (by omega) (by omega), zw64 (x := p1 + rdv b (p1 + 2 + 6 * (i : Int) + 4)) (by omega) (by omega)]
    by_cases hin : p1 + 2 + 6 * (i : Int) + 6 ≤ (b.length : Int)
    · have hwd : hasB b (p1 + 2 + 6 * (i : Int) + 4) 1 2 = true := by unfold hasB; exact decide_eq_true (by omega)
      rw [hwd]
      simp only [Bool.not_true, Bool.or_false]
      obtain ⟨f1, f2⟩ := feat_eq N b false (p1 + rdv b (p1 + 2 + 6 * (i : Int) + 4)) p2 hU (by omega) (by omega) hN
      cases hres : resF b (p1 + rdv b (p1 + 2 + 6 * (i : Int) + 4)) p2 with
      | none =>
        obtain ⟨q', e⟩ := f2 (.inr hres)
        rw [e, Option.bind_some]
        exact ⟨q', rfl⟩
      | some r =>
        rw [f1 r rfl hres, Option.bind_some]
        simp only
        rw [tag_eq N b _ (by omega) (by omega), Option.bind_some]
        simp only
        have hap : ∀ x : Fe, apg acc [x] = some (acc ++ [x]) := fun x => by unfold apg; rw [if_pos (by show acc.length + 1 ≤ _; omega)]
        rw [hap, Option.bind_some, zwp i (by omega)]
        exact prog_out hw k (i + 1) _ (by omega) (by omega) (by rw [List.length_append]; show acc.length + 1 ≤ _; omega)
    · have hwd : hasB b (p1 + 2 + 6 * (i : Int) + 4) 1 2 = false := by unfold hasB; exact decide_eq_false (by omega)
      rw [hwd]
      simp only [Bool.not_false, Bool.or_true]
      obtain ⟨f1, f2⟩ := feat_eq N b true (p1 + rdv b (p1 + 2 + 6 * (i : Int) + 4)) p2 hU (by omega) (by omega) hN
      obtain ⟨q', e⟩ := f2 (.inl rfl)
      rw [e, Option.bind_some]
      exact ⟨q', rfl⟩
end
end Go.Proofs.Ytgjlpiljacecpaa
