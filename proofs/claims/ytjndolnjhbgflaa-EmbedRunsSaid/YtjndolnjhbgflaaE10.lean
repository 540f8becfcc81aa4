/-
  The document's Match: where an initiator's PDI is.
-/
import Derived.Test.YtjndolnjhbgflaaE5
namespace Go.Proofs.Ytjndolnjhbgflaa
open Go Go.RowKit
set_option linter.unusedVariables false
set_option linter.unusedSectionVars false
set_option linter.unusedSimpArgs false

/-- how far the PDI is that ends what d initiators began -/
def closeR : Nat → List Int → Option Nat
  | _, [] => none
  | d, c :: r => if c = 11 then none else if isInit c = true then (closeR (d + 1) r).map (· + 1) else if c = 23 then (if d ≤ 1 then some 0 else (closeR (d - 1) r).map (· + 1)) else (closeR d r).map (· + 1)

def pairUp (i k : Nat) (out : List Int) (o : Option Nat) : List Int := match o with
  | some o => (out.set i ((k + o : Nat) : Int)).set (k + o) (i : Int)
  | none => out

theorem pairUp_next (i k : Nat) (out : List Int) (o : Option Nat) : pairUp i k out (o.map (· + 1)) = pairUp i (k + 1) out o := by
  cases o with
  | none => rfl
  | some o => simp only [Option.map_some, pairUp, show k + (o + 1) = k + 1 + o by omega]

theorem match_in (N : Nat) (l : List Int) (i : Nat) (hl : l.length ≤ 400000000) (hi : i < l.length) (hx : isInit (l.getD i 0) = true) : ∀ (f k d : Nat) (out : List Int), l.length - k < f → i < k → k ≤ l.length → 1 ≤ d → d ≤ k → out.length = l.length → out.getD i 0 < 0 →
    rMatch_L3 N l (i : Int) (f + 1) out (d : Int) (k : Int) = some (pairUp i k out (closeR d (l.drop k)))
  | 0, _, _, _, h, _, _, _, _, _, _ => absurd h (Nat.not_lt_zero _)
  | f + 1, k, d, out, hf, hik, hk, hd, hdk, ho, hneg => by
    conv => lhs; unfold rMatch_L3
    simp only [ixe hi, Option.bind_some, rInit_eq, hx, ixe (show i < out.length by omega)]
    rw [if_pos hneg]
    by_cases hn : k < l.length
    · rw [if_pos (by omega), drop_e hn]
      simp only [ixe hn, Option.bind_some]
      generalize l.getD k 0 = c
      have ih := fun d' h1 h2 => match_in N l i hl hi hx f (k + 1) d' out (by omega) (by omega) (by omega) h1 h2 ho hneg
      unfold closeR
      by_cases h11 : c = 11
      · rw [if_neg (by simpa using h11), if_pos h11]; rfl
      rw [if_pos h11, if_neg h11]
      cases hc : isInit c with
      | true =>
        have hc' := hc
        rw [isInit_iff] at hc'
        simp only [Option.bind_some, if_true]
        rw [if_neg (show ¬ c = 23 by omega), wne d (by omega)]
        simp only [Option.bind_some]
        rw [if_neg (by omega), wne k (by omega), ih (d + 1) (by omega) (by omega), pairUp_next]
      | false =>
        simp only [Option.bind_some, Bool.false_eq_true, if_false]
        by_cases h23 : c = 23
        · rw [if_pos h23, if_pos h23, wme d (by omega) (by omega)]
          simp only [Option.bind_some]
          by_cases h1 : d ≤ 1
          · rw [if_pos h1, if_pos (by omega), setxe _ (show i < out.length by omega), Option.bind_some, ixe (by rw [List.length_set]; omega), Option.bind_some, setxe _ (by rw [List.length_set]; omega), Option.bind_some]
            unfold rMatch_L3
            have hg : ((out.set i (k : Int)).set k (i : Int)).getD i 0 = (k : Int) := by
              rw [List.getD_eq_getElem?_getD, List.getElem?_set_ne (by omega), List.getElem?_set_self (by omega)]; rfl
            simp only [ixe hi, Option.bind_some, rInit_eq, hx, ixe (show i < ((out.set i (k : Int)).set k (i : Int)).length by simp; omega), hg]
            rw [if_neg (by omega)]
            rfl
          · rw [if_neg h1, if_neg (by omega), wne k (by omega), ih (d - 1) (by omega) (by omega), pairUp_next]
        · rw [if_neg h23, if_neg h23]
          simp only [Option.bind_some]
          rw [if_neg (by omega), wne k (by omega), ih d hd (by omega), pairUp_next]
    · rw [if_neg (by omega), List.drop_eq_nil_of_le (by omega)]; rfl

theorem close_at : ∀ (r : List Int) (d o : Nat), closeR d r = some o → r.getD o 0 = 23 ∧ o < r.length
  | [], _, _, h => by cases h
  | c :: r, d, o, h => by
    unfold closeR at h
    split at h
    · cases h
    split at h
    · obtain ⟨o', h1, rfl⟩ := Option.map_eq_some_iff.1 h
      have := close_at r (d + 1) o' h1
      exact ⟨by simpa using this.1, by simp; omega⟩
    split at h
    · rename_i h23
      split at h
      · rw [← Option.some.inj h]; exact ⟨h23, by simp⟩
      · obtain ⟨o', h1, rfl⟩ := Option.map_eq_some_iff.1 h
        have := close_at r (d - 1) o' h1
        exact ⟨by simpa using this.1, by simp; omega⟩
    · obtain ⟨o', h1, rfl⟩ := Option.map_eq_some_iff.1 h
      have := close_at r d o' h1
      exact ⟨by simpa using this.1, by simp; omega⟩

/-- P10.1, by lists: initiator by initiator -/
def matchF (l : List Int) : Nat → Nat → List Int → List Int
  | 0, _, out => out
  | n + 1, i, out => matchF l n (i + 1) (if isInit (l.getD i 0) = true then pairUp i (i + 1) out (closeR 1 (l.drop (i + 1))) else out)
def matchS (l : List Int) : List Int := matchF l l.length 0 (List.replicate l.length (-1))

theorem pairUp_len (i k : Nat) (out : List Int) (o : Option Nat) : (pairUp i k out o).length = out.length := by
  unfold pairUp; split <;> simp

theorem drop_getD (l : List Int) (k o : Nat) : (l.drop k).getD o 0 = l.getD (k + o) 0 := by
  rw [List.getD_eq_getElem?_getD, List.getD_eq_getElem?_getD, List.getElem?_drop]

theorem pairUp_init (l : List Int) (i : Nat) (out : List Int) (h : ∀ x, i ≤ x → x < l.length → isInit (l.getD x 0) = true → out.getD x 0 = -1) (hlen : out.length = l.length) :
    ∀ x, i + 1 ≤ x → x < l.length → isInit (l.getD x 0) = true → (pairUp i (i + 1) out (closeR 1 (l.drop (i + 1)))).getD x 0 = -1 := by
  intro x hx hxl hin
  cases hc : closeR 1 (l.drop (i + 1)) with
  | none => exact h x (by omega) hxl hin
  | some o =>
    have ha := (close_at _ _ _ hc).1
    rw [drop_getD] at ha
    have hne : i + 1 + o ≠ x := by
      intro e
      rw [e] at ha
      rw [ha] at hin
      cases hin
    unfold pairUp
    rw [List.getD_eq_getElem?_getD, List.getElem?_set_ne hne, List.getElem?_set_ne (by omega), ← List.getD_eq_getElem?_getD]
    exact h x (by omega) hxl hin

theorem match_out (N : Nat) (l : List Int) (hl : l.length ≤ 400000000) (hN : l.length + 2 < N) : ∀ (n i k : Nat) (out : List Int), i + n = l.length → n < k → out.length = l.length → (∀ x, i ≤ x → x < l.length → isInit (l.getD x 0) = true → out.getD x 0 = -1) →
    rMatch_L2 N l k out (i : Int) = some (matchF l n i out)
  | 0, i, 0, _, _, h, _, _ => absurd h (Nat.not_lt_zero _)
  | _ + 1, i, 0, _, _, h, _, _ => absurd h (Nat.not_lt_zero _)
  | 0, i, k + 1, out, h, _, _, _ => by unfold rMatch_L2; rw [if_neg (by omega)]; rfl
  | n + 1, i, k + 1, out, h, hk, hlen, hinv => by
    have hi : i < l.length := by omega
    unfold rMatch_L2 matchF
    rw [if_pos (by omega)]
    have hin : rMatch_L3 N l (i : Int) N out 0 (i : Int) = some (if isInit (l.getD i 0) = true then pairUp i (i + 1) out (closeR 1 (l.drop (i + 1))) else out) := by
      obtain ⟨M, rfl⟩ : ∃ M, N = M + 2 := ⟨N - 2, by omega⟩
      conv => lhs; unfold rMatch_L3
      simp only [ixe hi, Option.bind_some, rInit_eq]
      cases hx : isInit (l.getD i 0) with
      | false => rfl
      | true =>
        have hx' := hx
        rw [isInit_iff] at hx'
        have ho := hinv i (Nat.le_refl _) hi hx
        simp only [ixe (show i < out.length by omega), Option.bind_some, ho, if_true]
        rw [if_pos (by decide), if_pos (by omega), if_pos (by omega)]
        try simp only [Option.bind_some]
        rw [if_neg (show ¬ l.getD i 0 = 23 by omega), show IntKind.i64.wrap ((0 : Int) + 1) = ((1 : Nat) : Int) by decide]
        try simp only [Option.bind_some]
        rw [if_neg (by decide), wne i (by omega)]
        exact match_in (M + 2) l i hl hi hx M (i + 1) 1 out (by omega) (by omega) (by omega) (Nat.le_refl _) (by omega) hlen (by omega)
    rw [hin, Option.bind_some, wne i (by omega)]
    refine match_out N l hl hN n (i + 1) k _ (by omega) (by omega) ?_ ?_
    · split
      · rw [pairUp_len, hlen]
      · exact hlen
    · split
      · exact pairUp_init l i out hinv hlen
      · exact fun x hx => hinv x (by omega)

theorem fill_m (N : Nat) (l : List Int) (hl : l.length ≤ 400000000) : ∀ (k i : Nat) (a : List Int), l.length - i < k → i ≤ l.length → a.length = l.length → a.take i = List.replicate i (-1) → rMatch_L1 N l k a (i : Int) = some (List.replicate l.length (-1))
  | 0, _, _, h, _, _, _ => absurd h (Nat.not_lt_zero _)
  | k + 1, i, a, hk, hi, ha, ht => by
    unfold rMatch_L1
    by_cases hn : i < l.length
    · rw [if_pos (by omega), ixe (by omega), Option.bind_some, setxe _ (by omega), Option.bind_some, wne i (by omega)]
      refine fill_m N l hl k (i + 1) _ (by omega) (by omega) (by simp [ha]) ?_
      rw [take_succ_set _ _ _ (by omega), ht, List.replicate_succ']
    · rw [if_neg (by omega)]
      have : i = l.length := by omega
      subst this
      rw [← ht, List.take_of_length_le (by omega)]

theorem rMatch_eq (N : Nat) (l : List Int) (hl : l.length ≤ 400000000) (hN : l.length + 2 < N) : rMatch N l = some (matchS l) := by
  unfold rMatch
  rw [mkx_nat l.length (by omega)]
  simp only [Option.bind_some]
  have h1 := fill_m N l hl N 0 (List.replicate l.length 0) (by omega) (Nat.zero_le _) (by simp) rfl
  rw [show ((0 : Nat) : Int) = 0 from rfl] at h1
  rw [h1]
  simp only [Option.bind_some]
  have h2 := match_out N l hl hN l.length 0 N (List.replicate l.length (-1)) (by omega) (by omega) (by simp) (fun x _ hx _ => by rw [List.getD_eq_getElem?_getD, List.getElem?_replicate, if_pos hx]; rfl)
  rw [show ((0 : Nat) : Int) = 0 from rfl] at h2
  rw [h2]
  rfl
end Go.Proofs.Ytjndolnjhbgflaa
