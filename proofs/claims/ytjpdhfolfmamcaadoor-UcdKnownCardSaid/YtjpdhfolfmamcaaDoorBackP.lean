/-
  UTF-8 there and back: texts alone.
-/
import Derived.Test.YtjpdhfolfmamcaaDoorRefDec
namespace Go.Proofs.YtjpdhfolfmamcaaDoor
open Go Go.RowKit

/-- a text's bytes as numbers -/
def byteL (s : ByteArray) : List Nat := s.data.toList.map UInt8.toNat

theorem byteL_len (s : ByteArray) : (byteL s).length = s.size := by simp [byteL]

theorem byN_getD (s : ByteArray) (j : Nat) : byN s j = (byteL s).getD j 0 := by
  unfold byN byteL
  rw [← Lib.getD_get!' s j, List.getD_eq_getElem?_getD, List.getD_eq_getElem?_getD, List.getElem?_map]
  cases s.data.toList[j]? <;> rfl

theorem take_next (l : List Nat) (i : Nat) (h : i < l.length) : l.take (i + 1) = l.take i ++ [l.getD i 0] := by
  rw [List.take_succ_eq_append_getElem h]
  simp [h]

theorem take_four (l : List Nat) (i k : Nat) (h1 : 1 ≤ k) (h4 : k ≤ 4) (h : i + k ≤ l.length) :
    l.take (i + k) = l.take i ++ [l.getD i 0, l.getD (i + 1) 0, l.getD (i + 2) 0, l.getD (i + 3) 0].take k := by
  rcases (show k = 1 ∨ k = 2 ∨ k = 3 ∨ k = 4 by omega) with rfl | rfl | rfl | rfl
  · rw [take_next l i (by omega)]; rfl
  · rw [show i + 2 = (i + 1) + 1 by omega, take_next l (i + 1) (by omega), take_next l i (by omega)]; simp
  · rw [show i + 3 = (i + 1 + 1) + 1 by omega, take_next l (i + 1 + 1) (by omega), take_next l (i + 1) (by omega), take_next l i (by omega)]; simp
  · rw [show i + 4 = (i + 1 + 1 + 1) + 1 by omega, take_next l (i + 1 + 1 + 1) (by omega), take_next l (i + 1 + 1) (by omega), take_next l (i + 1) (by omega), take_next l i (by omega)]; simp

theorem enc_len (r : Nat) : 1 ≤ (encN r).length ∧ (encN r).length ≤ 4 := by
  unfold encN
  repeat' split
  all_goals simp

/-- what is decoded has just the bytes -/
theorem fin_bytes (s : ByteArray) : (fin s 0 []).1.flatMap encN = (byteL s).take (fin s 0 []).2 := by
  have h := fin_ind s (fun i acc => i ≤ s.size ∧ acc.flatMap encN = (byteL s).take i) (by
    rintro i acc ⟨h1, h2⟩ hi hb
    refine ⟨dec_fits s i hi, ?_⟩
    rw [List.flatMap_append, h2]
    have hw := decN_width (s.size - i) (byN s i) (byN s (i + 1)) (byN s (i + 2)) (byN s (i + 3))
    have he := dec_enc (s.size - i) (byN s i) (byN s (i + 1)) (byN s (i + 2)) (byN s (i + 3)) (by rw [← decode_by]; exact hb)
    rw [← decode_by] at hw he
    have hf := dec_fits s i hi
    rw [take_four (byteL s) i _ hw.1 hw.2.1 (by rw [byteL_len]; exact hf)]
    simp only [List.flatMap_cons, List.flatMap_nil, List.append_nil]
    rw [he, byN_getD, byN_getD, byN_getD, byN_getD]) s.size 0 [] (by omega) ⟨by omega, by simp⟩
  exact h.1.2

theorem enc_at (s : ByteArray) (i r : Nat) (pre post : List Nat) (hr : scalar r) (h : byteL s = pre ++ (encN r ++ post)) (hi : i = pre.length) :
    i < s.size ∧ Utf8.decode s i = (r, (encN r).length) ∧ ¬ noChar s i := by
  have hl := congrArg List.length h
  rw [byteL_len] at hl
  simp at hl
  have h1 := enc_len r
  have key : ∀ j, j < (encN r).length → byN s (i + j) = (encN r).getD j 0 := by
    intro j hj
    rw [byN_getD, h, hi, List.getD_eq_getElem?_getD, List.getElem?_append_right (by omega), show pre.length + j - pre.length = j by omega, List.getElem?_append_left hj, ← List.getD_eq_getElem?_getD]
  have hd : Utf8.decode s i = (r, (encN r).length) := by
    rw [decode_by]
    exact enc_dec r _ _ _ _ _ hr (by omega) (by have := key 0 (by omega); simpa using this) (fun h => key 1 h) (fun h => key 2 h) (fun h => key 3 h)
  refine ⟨by omega, hd, ?_⟩
  unfold noChar
  rw [hd]
  intro e
  injection e with e1 e2
  rw [e1] at e2
  exact absurd e2 (by decide)

theorem fin_enc_from (s : ByteArray) (post : List Nat) : ∀ (pre : List Nat), (∀ r ∈ post, scalar r) → byteL s = pre.flatMap encN ++ post.flatMap encN → fin s (pre.flatMap encN).length pre = (pre ++ post, s.size) := by
  induction post with
  | nil =>
    intro pre _ h
    have hl := congrArg List.length h
    rw [byteL_len] at hl
    simp only [List.flatMap_nil, List.append_nil] at hl
    rw [fin_end s _ pre (by omega), List.append_nil, hl]
  | cons r t ih =>
    intro pre hs h
    rw [List.flatMap_cons] at h
    obtain ⟨h1, h2, h3⟩ := enc_at s _ r _ _ (hs r (by simp)) h rfl
    rw [fin_next s _ pre h1 h3, h2]
    have e : (pre.flatMap encN).length + (encN r).length = ((pre ++ [r]).flatMap encN).length := by
      rw [List.flatMap_append, List.length_append]; simp
    show fin s ((pre.flatMap encN).length + (encN r).length) (pre ++ [r]) = _
    rw [e, ih (pre ++ [r]) (fun x hx => hs x (by simp [hx])) (by rw [h, List.flatMap_append]; simp)]
    simp

/-- characters' bytes are decoded as the characters -/
theorem fin_enc (s : ByteArray) (l : List Nat) (hl : ∀ r ∈ l, scalar r) (h : byteL s = l.flatMap encN) : fin s 0 [] = (l, s.size) := by
  have := fin_enc_from s l [] hl (by simpa using h)
  simpa using this

/-- what is ahead of the first fault is right -/
theorem fin_ahead (s p : ByteArray) (hp : byteL p = (byteL s).take (fin s 0 []).2) : fin p 0 [] = ((fin s 0 []).1, p.size) := by
  obtain ⟨_, _, h3, _⟩ := fin_bound s
  exact fin_enc p _ (fun r hr => h3 r hr) (by rw [hp, fin_bytes])
end Go.Proofs.YtjpdhfolfmamcaaDoor
