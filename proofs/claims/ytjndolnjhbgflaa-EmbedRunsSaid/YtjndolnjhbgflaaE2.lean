/-
  The document's levels are those by the stack.
-/
import Derived.Test.YtjndolnjhbgflaaR1
import Derived.Test.YtjndolnjhbgflaaE1
namespace Go.Proofs.Ytjndolnjhbgflaa
open Go Go.RowKit
set_option linter.unusedVariables false
set_option linter.unusedSectionVars false
set_option linter.unusedSimpArgs false

theorem w64e {x : Int} (h0 : -9223372036854775808 ≤ x) (h1 : x ≤ 9223372036854775807) : IntKind.i64.wrap x = x := by rw [IntKind.wrap_i64]; omega
theorem w8e {x : Int} (h0 : 0 ≤ x) (h1 : x ≤ 255) : IntKind.u8.wrap x = x := by rw [IntKind.wrap_u8]; omega
theorem wne (i : Nat) (h : i ≤ 1000000000) : IntKind.i64.wrap ((i : Int) + 1) = ((i + 1 : Nat) : Int) := by rw [w64e (by omega) (by omega)]; simp
theorem wme (i : Nat) (h : i ≤ 1000000000) (h0 : 0 < i) : IntKind.i64.wrap ((i : Int) - 1) = ((i - 1 : Nat) : Int) := by rw [w64e (by omega) (by omega)]; omega
theorem ixe {l : List Int} {i : Nat} (h : i < l.length) : ix l (i : Int) = some (l.getD i 0) := by unfold ix; rw [if_pos (by omega)]; rfl
theorem setxe {l : List Int} {i : Nat} (v : Int) (h : i < l.length) : setx l (i : Int) v = some (l.set i v) := by unfold setx; rw [if_pos (by omega)]; simp
theorem drop_e {l : List Int} {i : Nat} (h : i < l.length) : l.drop i = l.getD i 0 :: l.drop (i + 1) := by
  rw [List.drop_eq_getElem_cons h]; simp [List.getD_eq_getElem?_getD, h]

theorem rInit_eq (N : Nat) (c : Int) : rInit N c = some (isInit c) := by
  unfold rInit isInit
  by_cases h1 : c = 20
  · simp [h1]
  by_cases h2 : c = 21
  · simp [h2]
  simp [h1, h2]

theorem rRem_eq (N : Nat) (c : Int) : rRem N c = some (isRem c) := by
  unfold rRem isRem
  by_cases h1 : c = 15
  · simp [h1]
  by_cases h2 : c = 16
  · simp [h2]
  by_cases h3 : c = 17
  · simp [h3]
  by_cases h4 : c = 18
  · simp [h4]
  by_cases h5 : c = 19
  · simp [h5]
  simp [h1, h2, h3, h4, h5]

theorem rOvr_eq (N : Nat) (c : Int) : rOvr N c = some (ovrOf c) := by
  unfold rOvr ovrOf
  split
  · rfl
  split <;> rfl

theorem rNext_eq (N : Nat) (lev o : Int) (r : Bool) (h : 0 ≤ lev ∧ lev ≤ 125) : rNext N lev o r = some (nextL lev r) := by
  unfold rNext nextL
  rw [w8e (x := lev + 1) (by omega) (by omega), w8e (x := lev + 1 + 1) (by omega) (by omega), Int.tmod_eq_emod_of_nonneg (by omega)]
  by_cases hp : (lev + 1) % 2 = 1
  · rw [if_pos hp, decide_eq_true hp]
    cases r
    · rw [if_neg (by decide)]; simp; omega
    · rw [if_pos rfl]
  · rw [if_neg hp, decide_eq_false hp]
    cases r
    · rw [if_pos rfl]
    · rw [if_neg (by decide)]; simp; omega

def fin2 : Option (Ctl Unit Bool) → Option Bool := fun o => o.bind fun | Ctl.go () => some false | Ctl.ret r => some r

theorem right_loop (N : Nat) (l : List Int) (iso : Bool) (hl : l.length ≤ 900000000) : ∀ (k i d : Nat), l.length - i < k → i ≤ l.length → d ≤ i → fin2 (rRight_L1 N l iso k (d : Int) (i : Int)) = some (rightw iso d (l.drop i))
  | 0, _, _, h, _, _ => absurd h (Nat.not_lt_zero _)
  | k + 1, i, d, hk, hi, hd => by
    unfold rRight_L1
    by_cases hn : i < l.length
    · have ih := fun d hd => right_loop N l iso hl k (i + 1) d (by omega) (by omega) hd
      rw [if_pos (by omega), drop_e hn, rightw_cons]
      simp only [ixe hn, Option.bind_some, rInit_eq, wne i (by omega), wne d (by omega)]
      generalize l.getD i 0 = c
      by_cases h11 : c = 11
      · rw [if_neg (by simpa using h11), if_pos h11]; rfl
      rw [if_pos h11, if_neg h11]
      cases hc : isInit c with
      | true => exact ih (d + 1) (by omega)
      | false =>
        simp only [Bool.false_eq_true, if_false]
        by_cases h23 : c = 23
        · rw [if_pos h23, if_pos h23, if_pos h23]
          have h1 : ¬ c = 1 := by omega
          have h2 : ¬ c = 2 := by omega
          have h3 : ¬ c = 3 := by omega
          match d with
          | 0 =>
            rw [if_neg (by omega)]
            simp only [Option.bind_some]
            cases iso with
            | true => rfl
            | false =>
              simp only [Option.bind_some, if_pos (show ((0 : Nat) : Int) = 0 from rfl), if_neg h1, if_neg h2, if_neg h3]
              exact ih 0 (by omega)
          | d + 1 =>
            rw [if_pos (by omega)]
            simp only [Option.bind_some, wme (d + 1) (by omega) (by omega), Nat.add_sub_cancel]
            exact ih d (by omega)
        · rw [if_neg h23, if_neg h23, if_neg h23]
          simp only [Option.bind_some]
          by_cases h0 : d = 0
          · subst h0
            simp only [if_pos (show ((0 : Nat) : Int) = 0 from rfl)]
            by_cases h1 : c = 1
            · simp only [if_pos h1, Option.bind_some]
              rw [if_pos ⟨trivial, h1⟩]; rfl
            · simp only [if_neg h1, Option.bind_some]
              by_cases h2 : c = 2
              · rw [if_pos h2, if_neg (fun e => h1 e.2), if_pos ⟨trivial, .inl h2⟩]; rfl
              · rw [if_neg h2]
                by_cases h3 : c = 3
                · rw [if_pos h3, if_neg (fun e => h1 e.2), if_pos ⟨trivial, .inr h3⟩]; rfl
                · rw [if_neg h3, if_neg (fun e => h1 e.2), if_neg (fun e => e.2.elim h2 h3)]
                  exact ih 0 (by omega)
          · simp only [if_neg (show ¬ ((d : Nat) : Int) = 0 by omega), Option.bind_some]
            rw [if_neg (by omega), if_neg (by omega)]
            exact ih d (by omega)
    · rw [if_neg (by omega), List.drop_eq_nil_of_le (by omega)]; rfl

theorem rRight_eq (N : Nat) (l : List Int) (i : Nat) (iso : Bool) (hl : l.length ≤ 900000000) (hN : l.length < N) (hi : i ≤ l.length) : rRight N l (i : Int) iso = some (rightw iso 0 (l.drop i)) := by
  have h := right_loop N l iso hl N i 0 (by omega) hi (Nat.zero_le _)
  unfold rRight
  exact h

theorem rBase_eq (N : Nat) (l : List Int) (hl : l.length ≤ 900000000) (hN : l.length < N) : rBase N l = some (if rightw false 0 l = true then 1 else 0) := by
  unfold rBase
  rw [show (0 : Int) = ((0 : Nat) : Int) from rfl, rRight_eq N l 0 false hl hN (Nat.zero_le _), List.drop_zero]
  cases rightw false 0 l <;> rfl

theorem rStands_eq (N : Nat) (l : List Int) (b : Int) (lv cl : List Int) (i : Nat) (lev ovr : Int) (h : i < l.length) (h1 : lv.length = l.length) (h2 : cl.length = l.length) :
    rStands N l b lv cl (i : Int) lev ovr = some (lv.set i lev, cl.set i (if ovr = 0 then l.getD i 0 else ovr)) := by
  unfold rStands
  rw [ixe (by omega), Option.bind_some, setxe _ (by omega), Option.bind_some, ixe h, Option.bind_some, ixe (by omega), Option.bind_some, setxe _ (by omega), Option.bind_some]
  by_cases ho : ovr = 0
  · rw [if_neg (by simpa using ho), if_pos ho]
  · rw [if_pos ho, if_neg ho, ixe (by simp; omega), Option.bind_some, setxe _ (by simp; omega), Option.bind_some, List.set_set]
end Go.Proofs.Ytjndolnjhbgflaa
