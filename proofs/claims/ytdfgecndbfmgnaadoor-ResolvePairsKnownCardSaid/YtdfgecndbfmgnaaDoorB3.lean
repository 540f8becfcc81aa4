/-
  The document's rule of pairs, by lists: what is in, what is ahead, what becomes a side.
-/
import Derived.Test.YtdfgecndbfmgnaaDoorB2
import Derived.Test.YtdfgecndbfmgnaaDoorRB2
namespace Go.Proofs.YtdfgecndbfmgnaaDoor
open Go Go.RowKit
set_option linter.unusedVariables false
set_option linter.unusedSectionVars false
set_option linter.unusedSimpArgs false

def sosS (s : Int) : Int := if s = 2 then 2 else 1
def dirC (c : Int) : Int := if c = 1 then 1 else if c = 2 ∨ c = 4 ∨ c = 7 then 2 else 0
theorem rSide_eq (N : Nat) (c : Int) : rSide N c = some (dirC c) := by
  unfold rSide dirC
  by_cases h1 : c = 1
  · rw [if_pos h1, if_pos h1]
  rw [if_neg h1, if_neg h1]
  by_cases h2 : c = 2
  · rw [if_pos h2, if_pos (.inl h2)]
  rw [if_neg h2]
  by_cases h3 : c = 4
  · rw [if_pos h3, if_pos (.inr (.inl h3))]
  rw [if_neg h3]
  by_cases h4 : c = 7
  · rw [if_pos h4, if_pos (.inr (.inr h4))]
  rw [if_neg h4, if_neg (by omega)]
def amongS (l : List Int) (s : Int) : Bool := l.any fun c => decide (dirC c = s)
def aheadR (sos : Int) : List Int → Int
  | [] => sosS sos
  | c :: t => if dirC c ≠ 0 then dirC c else aheadR sos t
def markS (side : Int) : List Int → List Int → List Int
  | o :: os, f :: fs => if o = 10 then 10 :: markS side os fs else if f = 9 then side :: markS side os fs else o :: os
  | os, _ => os
def setS (out first : List Int) (n : Nat) (side : Int) : List Int := out.take n ++ side :: markS side (out.drop (n + 1)) (first.drop (n + 1))
theorem markS_len (side : Int) : ∀ (os fs : List Int), (markS side os fs).length = os.length
  | [], [] => rfl
  | [], _ :: _ => rfl
  | _ :: _, [] => rfl
  | o :: os, f :: fs => by
    rw [markS]
    split
    · rw [List.length_cons, List.length_cons, markS_len side os fs]
    · split
      · rw [List.length_cons, List.length_cons, markS_len side os fs]
      · rfl
theorem setS_len (out first : List Int) (n : Nat) (side : Int) (h : n < out.length) : (setS out first n side).length = out.length := by
  unfold setS
  rw [List.length_append, List.length_cons, markS_len, List.length_take, List.length_drop]
  omega

theorem rAmong_loop (N : Nat) (l : List Int) (s : Int) (hl : l.length ≤ 400000000) : ∀ (k i : Nat), l.length - i < k → i ≤ l.length →
    ((rAmong_L1 N l s k (i : Int)).bind fun | Ctl.go () => some false | Ctl.ret r => some r) = some (amongS (l.drop i) s)
  | 0, _, h, _ => absurd h (Nat.not_lt_zero _)
  | k + 1, i, hk, hi => by
    unfold rAmong_L1
    by_cases h : i < l.length
    · have ih := rAmong_loop N l s hl k (i + 1) (by omega) (by omega)
      rw [if_pos (by omega), ixe h, Option.bind_some, rSide_eq, Option.bind_some, wne i (by omega), drop_e h]
      unfold amongS
      rw [List.any_cons]
      by_cases q : dirC (l.getD i 0) = s
      · rw [if_pos q, decide_eq_true q]
        rfl
      · rw [if_neg q, decide_eq_false q, ih]
        rfl
    · rw [if_neg (by omega), List.drop_eq_nil_of_le (by omega)]
      rfl
theorem rAmong_eq (N : Nat) (l : List Int) (s : Int) (hl : l.length ≤ 400000000) (hN : l.length < N) : rAmong N l s = some (amongS l s) := by
  unfold rAmong
  have h := rAmong_loop N l s hl N 0 (by omega) (Nat.zero_le _)
  rw [List.drop_zero, show ((0 : Nat) : Int) = 0 from rfl] at h
  exact h

theorem rAhead_loop (N : Nat) (l : List Int) (sos : Int) (hl : l.length ≤ 400000000) : ∀ (k j : Nat), j < k → j ≤ l.length →
    ((rAhead_L1 N l k ((j : Int) - 1)).bind fun | Ctl.go () => (if sos = 2 then some 2 else some 1) | Ctl.ret r => some r) = some (aheadR sos (l.take j).reverse)
  | 0, _, h, _ => absurd h (Nat.not_lt_zero _)
  | k + 1, 0, _, _ => by
    unfold rAhead_L1
    rw [if_neg (by omega)]
    show (if sos = 2 then some 2 else some 1 : Option Int) = some (sosS sos)
    unfold sosS
    split <;> rfl
  | k + 1, j + 1, hk, hj => by
    unfold rAhead_L1
    have hjl : j < l.length := by omega
    have e1 : ((j + 1 : Nat) : Int) - 1 = (j : Int) := by omega
    have e2 : (l.take (j + 1)).reverse = l.getD j 0 :: (l.take j).reverse := by
      rw [take_succ_e l j hjl, List.reverse_append]; rfl
    rw [e1, e2, aheadR, if_pos (by omega), ixe hjl]
    simp only [Option.bind_some, rSide_eq]
    by_cases q : dirC (l.getD j 0) ≠ 0
    · rw [if_pos q, if_pos q]
      rfl
    · rw [if_neg q, if_neg q, w64e (by omega) (by omega)]
      exact rAhead_loop N l sos hl k j (by omega) (by omega)
theorem rAhead_eq (N : Nat) (l : List Int) (sos : Int) (hl : l.length ≤ 400000000) (hN : l.length < N) : rAhead N l sos = some (aheadR sos l.reverse) := by
  unfold rAhead
  have h := rAhead_loop N l sos hl N l.length hN (Nat.le_refl _)
  rw [List.take_length] at h
  rw [w64e (by omega) (by omega)]
  exact h

theorem rSet_loop (N : Nat) (p0 first : List Int) (side : Int) (hl : p0.length ≤ 400000000) (hf : first.length = p0.length) : ∀ (k i : Nat) (a : List Int), p0.length - i < k → i ≤ p0.length → a.length = p0.length →
    rSet_L1 N p0 first side k a (i : Int) = some (a.take i ++ markS side (a.drop i) (first.drop i))
  | 0, _, _, h, _, _ => absurd h (Nat.not_lt_zero _)
  | k + 1, i, a, hk, hi, ha => by
    unfold rSet_L1
    by_cases h : i < p0.length
    · have ih := fun a => rSet_loop N p0 first side hl hf k (i + 1) a (by omega) (by omega)
      have hia : i < a.length := by omega
      have hif : i < first.length := by omega
      rw [if_pos (by omega), ixe hia, Option.bind_some, ixe hif, drop_e hia, drop_e hif, markS, wne i (by omega), setxe _ hia]
      simp only [Option.bind_some]
      by_cases h10 : a.getD i 0 = 10
      · rw [if_pos h10, if_neg (fun z => z h10), if_pos h10, ih a ha, ← h10, here a i hia]
      · rw [if_neg h10, if_neg h10]
        by_cases h9 : first.getD i 0 = 9
        · rw [if_pos h9, if_pos h10, if_pos h9, ih _ (by simp [ha]), there a i side hia, drop_set_ge]
        · rw [if_neg h9, if_neg h9, ← drop_e hia, List.take_append_drop]
    · rw [if_neg (by omega), List.drop_eq_nil_of_le (by omega), List.take_of_length_le (by omega), List.drop_eq_nil_of_le (by omega)]
      simp [markS]
theorem rSet_eq (N : Nat) (out first : List Int) (n : Nat) (side : Int) (hl : out.length ≤ 400000000) (hf : first.length = out.length) (hn : n < out.length) (hN : out.length < N) : rSet N out first (n : Int) side = some (setS out first n side) := by
  unfold rSet
  rw [ixe hn, Option.bind_some, setxe _ hn, Option.bind_some, wne n (by omega), rSet_loop N out first side hl hf N (n + 1) (out.set n side) (by omega) (by omega) (List.length_set ..), take_succ_set _ _ _ hn, drop_set_ge]
  unfold setS
  rw [List.append_assoc]
  rfl
end Go.Proofs.YtdfgecndbfmgnaaDoor
