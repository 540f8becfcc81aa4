/-
  Lists: what a reader that is lent tells.
-/
import Derived.Test.YtgjlpiljacecpaaLq
import Derived.Test.YtgjlpiljacecpaaZY
namespace Go.Proofs.Ytgjlpiljacecpaa
open Go Go.RowKit
theorem bhas_eq (N : Nat) (b : List Int) (q : Bool) (p n s : Int) (hb : b.length ≤ 1000000000) (hs : s = 1 ∨ s = 2) : bHas N b q p n s = some (hasB b p n s, q || !hasB b p n s) := by
  unfold bHas hasB
  by_cases h1 : 0 ≤ p
  · by_cases h2 : 0 ≤ n
    · by_cases h3 : p ≤ (b.length : Int)
      · rw [if_pos (by omega), if_pos (by omega), if_pos h3, if_neg (by omega), w64 (x := (b.length : Int) - p) (by omega) (by omega)]
        have e : IntKind.i64.wrap (((b.length : Int) - p).tdiv s) = ((b.length : Int) - p) / s := by
          rw [Int.tdiv_eq_ediv_of_nonneg (by omega)]
          rcases hs with rfl | rfl <;> rw [w64 (by omega) (by omega)]
        rw [e]
        rcases hs with rfl | rfl
        · by_cases h4 : n ≤ ((b.length : Int) - p) / 1
          · rw [if_pos h4, decide_eq_true (by omega)]; simp
          · rw [if_neg h4, decide_eq_false (by omega)]; simp
        · by_cases h4 : n ≤ ((b.length : Int) - p) / 2
          · rw [if_pos h4, decide_eq_true (by omega)]; simp
          · rw [if_neg h4, decide_eq_false (by omega)]; simp
      · rw [if_pos (by omega), if_pos (by omega), if_neg h3, decide_eq_false (by rcases hs with rfl | rfl <;> omega)]; simp
    · rw [if_pos (by omega), if_neg (by omega), decide_eq_false (by omega)]; simp
  · rw [if_neg (by omega), decide_eq_false (by omega)]; simp
theorem bword_eq (N : Nat) (b : List Int) (q : Bool) (p : Int) (hU : U8 b) (hb : b.length ≤ 1000000000) : bWord N b q p = some (rdv b p, q || !hasB b p 1 2) := by
  unfold bWord rdv
  rw [bhas_eq N b q p 1 2 hb (.inr rfl)]
  by_cases h : hasB b p 1 2 = true
  · have hx := of_decide_eq_true h
    rw [h]
    have h1 := hU.at p.toNat
    have h2 := hU.at (p.toNat + 1)
    simp only [Option.bind_some, if_true, Bool.not_true, Bool.or_false]
    rw [w64 (by omega) (by omega), ix_eq (by omega) (by omega), ix_eq (by omega) (by omega), show (p + 1).toNat = p.toNat + 1 by omega]
    simp only [Option.bind_some]
    rw [w16 h1.1 (by omega), w16 h2.1 (by omega), w16 (by omega) (by omega), ior_u16 _ _ h1 h2]
    rfl
  · have h : hasB b p 1 2 = false := by simpa using h
    rw [h]
    simp
theorem bwords_loop (N : Nat) (b : List Int) (p : Int) (hU : U8 b) (hb : b.length ≤ 1000000000) (l16 : List Int) (h0 : 0 ≤ p) (h1 : p + 2 * l16.length ≤ (b.length : Int)) (q : Bool) : ∀ (k x : Nat) (l : List Int), x ≤ l16.length → l16.length - x < k → l.length = l16.length →
    ∃ l', bWords_L1 N b p l16 k q l (x : Int) = some (q, l') ∧ l'.length = l16.length ∧ ∀ i, i < l16.length → l'.getD i 0 = if i < x then l.getD i 0 else wdv b (p + 2 * (i : Nat)) := by
  intro k
  induction k with
  | zero => intro x l _ h; omega
  | succ k ih =>
    intro x l hx hk hl
    rw [bWords_L1]
    by_cases hlt : x < l16.length
    · have hh : hasB b (p + 2 * (x : Nat)) 1 2 = true := decide_eq_true (by omega)
      rw [if_pos (by omega), w64 (x := (2 : Int) * (x : Int)) (by omega) (by omega), w64 (by omega) (by omega), bword_eq N b q _ hU hb, hh]
      unfold rdv
      rw [if_pos hh]
      simp only [Option.bind_some, Bool.not_true, Bool.or_false]
      rw [ix_nat (by omega), setx_eq (by omega) (by omega), w64 (by omega) (by omega)]
      simp only [Option.bind_some]
      obtain ⟨l', e1, e2, e3⟩ := ih (x + 1) (l.set (x : Int).toNat (wdv b (p + 2 * (x : Int)))) (by omega) (by omega) (by rw [List.length_set]; exact hl)
      refine ⟨l', by rw [show ((x : Int) + 1) = ((x + 1 : Nat) : Int) by omega]; exact e1, e2, fun i hi => ?_⟩
      rw [e3 i hi, show (x : Int).toNat = x by omega]
      by_cases h2 : i < x
      · rw [if_pos (by omega), if_pos h2, List.getD_eq_getElem?_getD, List.getD_eq_getElem?_getD, List.getElem?_set_ne (by omega)]
      · by_cases h3 : i = x
        · subst h3
          rw [if_pos (by omega), if_neg h2, List.getD_eq_getElem?_getD, List.getElem?_set_self (by omega)]; rfl
        · rw [if_neg (by omega), if_neg h2]
    · rw [if_neg (by omega)]
      exact ⟨l, rfl, hl, fun i hi => by rw [if_pos (by omega)]⟩
theorem bwords_eq (N : Nat) (b : List Int) (q : Bool) (p n : Int) (hU : U8 b) (hb : b.length ≤ 1000000000) (hN : n < N) : bWords N b q p n = some (if hasB b p n 2 then wds b p n.toNat else [], q || !hasB b p n 2) := by
  unfold bWords
  rw [bhas_eq N b q p n 2 hb (.inr rfl)]
  by_cases h : hasB b p n 2 = true
  · have hx := of_decide_eq_true h
    rw [h]
    simp only [Option.bind_some, if_true, Bool.not_true, Bool.or_false]
    rw [mkx_eq hx.2.1 (by omega)]
    simp only [Option.bind_some]
    obtain ⟨l', e1, e2, e3⟩ := bwords_loop N b p hU hb (List.replicate n.toNat 0) hx.1 (by rw [List.length_replicate]; omega) q N 0 (List.replicate n.toNat 0) (by omega) (by rw [List.length_replicate]; omega) rfl
    rw [show ((0 : Nat) : Int) = 0 from rfl] at e1
    rw [e1]
    simp only [Option.bind_some]
    rw [List.length_replicate] at e2 e3
    have : l' = wds b p n.toNat := by
      apply List.ext_getElem
      · rw [e2, wds_len]
      · intro i h1 h2
        have := e3 i (by omega)
        rw [if_neg (by omega), List.getD_eq_getElem?_getD, List.getElem?_eq_getElem h1] at this
        simpa [wds] using this
    rw [this]
  · have h : hasB b p n 2 = false := by simpa using h
    rw [h]
    simp
end Go.Proofs.Ytgjlpiljacecpaa
