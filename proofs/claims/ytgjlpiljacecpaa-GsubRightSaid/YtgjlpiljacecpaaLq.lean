/-
  Lists: what a reader tells.
-/
import Derived.Test.YtgjlpiljacecpaaZU
namespace Go.Proofs.Ytgjlpiljacecpaa
open Go Go.RowKit
theorem w64 {x : Int} (h0 : -9223372036854775808 ≤ x) (h1 : x ≤ 9223372036854775807) : IntKind.i64.wrap x = x := by rw [IntKind.wrap_i64]; omega
theorem w16 {x : Int} (h0 : 0 ≤ x) (h1 : x ≤ 65535) : IntKind.u16.wrap x = x := by rw [IntKind.wrap_u16]; omega
theorem w8 {x : Int} (h0 : 0 ≤ x) (h1 : x ≤ 255) : IntKind.u8.wrap x = x := by rw [IntKind.wrap_u8]; omega
theorem ior_u16 (x y : Int) (hx : 0 ≤ x ∧ x ≤ 255) (hy : 0 ≤ y ∧ y ≤ 255) : ior .u16 (x * 256) y = x * 256 + y := by
  obtain ⟨X, rfl⟩ := Int.eq_ofNat_of_zero_le hx.1
  obtain ⟨Y, rfl⟩ := Int.eq_ofNat_of_zero_le hy.1
  show IntKind.u16.wrap (((BitVec.ofInt 16 ((X : Int) * 256) ||| BitVec.ofInt 16 (Y : Int)).toNat : Nat) : Int) = _
  have e : ((X : Int) * 256) = ((2 ^ 8 * X : Nat) : Int) := by omega
  rw [e, BitVec.toNat_or, BitVec.ofInt_natCast, BitVec.ofInt_natCast, BitVec.toNat_ofNat, BitVec.toNat_ofNat, Nat.mod_eq_of_lt (by omega), Nat.mod_eq_of_lt (by omega), (Nat.two_pow_add_eq_or_of_lt (by omega) X).symm, IntKind.wrap_u16]
  omega
def U8 (l : List Int) : Prop := ∀ x ∈ l, 0 ≤ x ∧ x ≤ 255
def U16 (l : List Int) : Prop := ∀ x ∈ l, 0 ≤ x ∧ x ≤ 65535
theorem getD_mem {l : List Int} {i : Nat} (h : i < l.length) : l.getD i 0 ∈ l := by
  rw [List.getD_eq_getElem?_getD, List.getElem?_eq_getElem h]; exact List.getElem_mem h
theorem U8.at {l : List Int} (h : U8 l) (i : Nat) : 0 ≤ l.getD i 0 ∧ l.getD i 0 ≤ 255 := by
  rcases Nat.lt_or_ge i l.length with h' | h'
  · exact h _ (getD_mem h')
  · rw [List.getD_eq_getElem?_getD, List.getElem?_eq_none h']; decide
theorem U16.at {l : List Int} (h : U16 l) (i : Nat) : 0 ≤ l.getD i 0 ∧ l.getD i 0 ≤ 65535 := by
  rcases Nat.lt_or_ge i l.length with h' | h'
  · exact h _ (getD_mem h')
  · rw [List.getD_eq_getElem?_getD, List.getElem?_eq_none h']; decide
theorem ix_eq {l : List Int} {i : Int} (h0 : 0 ≤ i) (h1 : i < l.length) : ix l i = some (l.getD i.toNat 0) := by unfold ix; rw [if_pos ⟨h0, h1⟩]
theorem ix_nat {l : List Int} {i : Nat} (h1 : i < l.length) : ix l (i : Int) = some (l.getD i 0) := by rw [ix_eq (by omega) (by omega)]; rfl
theorem apx_eq {l m : List Int} (h : l.length + m.length ≤ 1000000000) : apx l m = some (l ++ m) := by unfold apx; rw [if_pos h]
theorem setx_eq {l : List Int} {i v : Int} (h0 : 0 ≤ i) (h1 : i < l.length) : setx l i v = some (l.set i.toNat v) := by unfold setx; rw [if_pos ⟨h0, h1⟩]
theorem mkx_eq {n : Int} (h0 : 0 ≤ n) (h1 : n ≤ 1000000000) : mkx n = some (List.replicate n.toNat 0) := by unfold mkx; rw [if_pos ⟨h0, h1⟩]
def hasB (b : List Int) (p n s : Int) : Bool := decide (0 ≤ p ∧ 0 ≤ n ∧ p + s * n ≤ (b.length : Int))
theorem has_eq (N : Nat) (b : List Int) (q : Bool) (p n s : Int) (hb : b.length ≤ 1000000000) (hs : s = 1 ∨ s = 2) : qHas N b q p n s = some (hasB b p n s, q || !hasB b p n s) := by
  unfold qHas hasB
  by_cases h1 : 0 ≤ p
  · by_cases h2 : 0 ≤ n
    · by_cases h3 : p ≤ (b.length : Int)
      · rw [if_pos (by omega), if_pos (by omega), if_pos h3, if_neg (by omega), w64 (x := (b.length : Int) - p) (by omega) (by omega)]
        have e : IntKind.i64.wrap (((b.length : Int) - p).tdiv s) = ((b.length : Int) - p) / s := by
          rw [Int.tdiv_eq_ediv_of_nonneg (by omega)]
          rcases hs with rfl | rfl <;> rw [w64 (by omega) (by omega)]
        rw [e]
        rcases hs with rfl | rfl
        · by_cases h4 : n ≤ ((b.length : Int) - p) / 1
          · rw [if_pos h4, decide_eq_true (by omega)]; simp
          · rw [if_neg h4, decide_eq_false (by omega)]; simp
        · by_cases h4 : n ≤ ((b.length : Int) - p) / 2
          · rw [if_pos h4, decide_eq_true (by omega)]; simp
          · rw [if_neg h4, decide_eq_false (by omega)]; simp
      · rw [if_pos (by omega), if_pos (by omega), if_neg h3, decide_eq_false (by rcases hs with rfl | rfl <;> omega)]; simp
    · rw [if_pos (by omega), if_neg (by omega), decide_eq_false (by omega)]; simp
  · rw [if_neg (by omega), decide_eq_false (by omega)]; simp
def wdv (b : List Int) (p : Int) : Int := b.getD p.toNat 0 * 256 + b.getD (p.toNat + 1) 0
theorem wdv_in {b : List Int} (hU : U8 b) (p : Int) : 0 ≤ wdv b p ∧ wdv b p ≤ 65535 := by
  have h1 := hU.at p.toNat
  have h2 := hU.at (p.toNat + 1)
  unfold wdv; omega
def rdv (b : List Int) (p : Int) : Int := if hasB b p 1 2 then wdv b p else 0
theorem rdv_in {b : List Int} (hU : U8 b) (p : Int) : 0 ≤ rdv b p ∧ rdv b p ≤ 65535 := by
  unfold rdv
  split
  · exact wdv_in hU p
  · decide
theorem word_eq (N : Nat) (b : List Int) (q : Bool) (p : Int) (hU : U8 b) (hb : b.length ≤ 1000000000) : qWord N b q p = some (rdv b p, q || !hasB b p 1 2) := by
  unfold qWord rdv
  rw [has_eq N b q p 1 2 hb (.inr rfl)]
  by_cases h : hasB b p 1 2 = true
  · have hx := of_decide_eq_true h
    rw [h]
    have h1 := hU.at p.toNat
    have h2 := hU.at (p.toNat + 1)
    simp only [Option.bind_some, if_true, Bool.not_true, Bool.or_false]
    rw [w64 (by omega) (by omega), ix_eq (by omega) (by omega), ix_eq (by omega) (by omega), show (p + 1).toNat = p.toNat + 1 by omega]
    simp only [Option.bind_some]
    rw [w16 h1.1 (by omega), w16 h2.1 (by omega), w16 (by omega) (by omega), ior_u16 _ _ h1 h2]
    rfl
  · have h : hasB b p 1 2 = false := by simpa using h
    rw [h]
    simp
def wds (b : List Int) (p : Int) (n : Nat) : List Int := (List.range n).map fun i => wdv b (p + 2 * (i : Nat))
theorem wds_len (b : List Int) (p : Int) (n : Nat) : (wds b p n).length = n := by simp [wds]
theorem wds_u16 {b : List Int} (hU : U8 b) (p : Int) (n : Nat) : U16 (wds b p n) := by
  intro x hx
  obtain ⟨i, _, rfl⟩ := List.mem_map.1 hx
  exact wdv_in hU _
theorem words_loop (N : Nat) (b : List Int) (p : Int) (hU : U8 b) (hb : b.length ≤ 1000000000) (l16 : List Int) (h0 : 0 ≤ p) (h1 : p + 2 * l16.length ≤ (b.length : Int)) (q : Bool) : ∀ (k x : Nat) (l : List Int), x ≤ l16.length → l16.length - x < k → l.length = l16.length →
    ∃ l', qWords_L1 N b p l16 k q l (x : Int) = some (q, l') ∧ l'.length = l16.length ∧ ∀ i, i < l16.length → l'.getD i 0 = if i < x then l.getD i 0 else wdv b (p + 2 * (i : Nat)) := by
  intro k
  induction k with
  | zero => intro x l _ h; omega
  | succ k ih =>
    intro x l hx hk hl
    rw [qWords_L1]
    by_cases hlt : x < l16.length
    · have hh : hasB b (p + 2 * (x : Nat)) 1 2 = true := decide_eq_true (by omega)
      rw [if_pos (by omega), w64 (x := (2 : Int) * (x : Int)) (by omega) (by omega), w64 (by omega) (by omega), word_eq N b q _ hU hb, hh]
      unfold rdv
      rw [if_pos hh]
      simp only [Option.bind_some, Bool.not_true, Bool.or_false]
      rw [ix_nat (by omega), setx_eq (by omega) (by omega), w64 (by omega) (by omega)]
      simp only [Option.bind_some]
      obtain ⟨l', e1, e2, e3⟩ := ih (x + 1) (l.set (x : Int).toNat (wdv b (p + 2 * (x : Int)))) (by omega) (by omega) (by rw [List.length_set]; exact hl)
      refine ⟨l', by rw [show ((x : Int) + 1) = ((x + 1 : Nat) : Int) by omega]; exact e1, e2, fun i hi => ?_⟩
      rw [e3 i hi, show (x : Int).toNat = x by omega]
      by_cases h2 : i < x
      · rw [if_pos (by omega), if_pos h2, List.getD_eq_getElem?_getD, List.getD_eq_getElem?_getD, List.getElem?_set_ne (by omega)]
      · by_cases h3 : i = x
        · subst h3
          rw [if_pos (by omega), if_neg h2, List.getD_eq_getElem?_getD, List.getElem?_set_self (by omega)]; rfl
        · rw [if_neg (by omega), if_neg h2]
    · rw [if_neg (by omega)]
      exact ⟨l, rfl, hl, fun i hi => by rw [if_pos (by omega)]⟩
theorem words_eq (N : Nat) (b : List Int) (q : Bool) (p n : Int) (hU : U8 b) (hb : b.length ≤ 1000000000) (hN : n < N) : qWords N b q p n = some (if hasB b p n 2 then wds b p n.toNat else [], q || !hasB b p n 2) := by
  unfold qWords
  rw [has_eq N b q p n 2 hb (.inr rfl)]
  by_cases h : hasB b p n 2 = true
  · have hx := of_decide_eq_true h
    rw [h]
    simp only [Option.bind_some, if_true, Bool.not_true, Bool.or_false]
    rw [mkx_eq hx.2.1 (by omega)]
    simp only [Option.bind_some]
    obtain ⟨l', e1, e2, e3⟩ := words_loop N b p hU hb (List.replicate n.toNat 0) hx.1 (by rw [List.length_replicate]; omega) q N 0 (List.replicate n.toNat 0) (by omega) (by rw [List.length_replicate]; omega) rfl
    rw [show ((0 : Nat) : Int) = 0 from rfl] at e1
    rw [e1]
    simp only [Option.bind_some]
    rw [List.length_replicate] at e2 e3
    have : l' = wds b p n.toNat := by
      apply List.ext_getElem
      · rw [e2, wds_len]
      · intro i h1 h2
        have := e3 i (by omega)
        rw [if_neg (by omega), List.getD_eq_getElem?_getD, List.getElem?_eq_getElem h1] at this
        simpa [wds] using this
    rw [this]
  · have h : hasB b p n 2 = false := by simpa using h
    rw [h]
    simp
end Go.Proofs.Ytgjlpiljacecpaa
