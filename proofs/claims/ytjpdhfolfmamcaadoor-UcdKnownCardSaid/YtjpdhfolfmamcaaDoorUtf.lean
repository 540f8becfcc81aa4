/-
  UTF-8 as the document says it, against the model's own decoding: texts alone.
-/
import Derived.Lib.DecodeN
import Derived.ProofKit
namespace Go.Proofs.YtjpdhfolfmamcaaDoor
open Go Go.RowKit

/-- byte j, 0 behind the end -/
def byN (s : ByteArray) (j : Nat) : Nat := (s.get! j).toNat

theorem byN_lt (s : ByteArray) (j : Nat) : byN s j < 256 := (s.get! j).toNat_lt

/-- no character begins there -/
def noChar (s : ByteArray) (i : Nat) : Prop := Utf8.decode s i = (65533, 1)

instance (s : ByteArray) (i : Nat) : Decidable (noChar s i) := by unfold noChar; infer_instance

theorem decode_by (s : ByteArray) (i : Nat) : Utf8.decode s i = Lib.decodeN (s.size - i) (byN s i) (byN s (i + 1)) (byN s (i + 2)) (byN s (i + 3)) := Lib.decode_at s i

theorem decN_width (n b0 b1 b2 b3 : Nat) : 1 ≤ (Lib.decodeN n b0 b1 b2 b3).2 ∧ (Lib.decodeN n b0 b1 b2 b3).2 ≤ 4 ∧ (1 ≤ n → (Lib.decodeN n b0 b1 b2 b3).2 ≤ n) := by
  unfold Lib.decodeN
  repeat' split
  all_goals (refine ⟨?_, ?_, ?_⟩ <;> simp <;> omega)

theorem decN_scalar (n b0 b1 b2 b3 : Nat) : (Lib.decodeN n b0 b1 b2 b3).1 ≤ 1114111 ∧ ¬ (55296 ≤ (Lib.decodeN n b0 b1 b2 b3).1 ∧ (Lib.decodeN n b0 b1 b2 b3).1 ≤ 57343) := by
  unfold Lib.decodeN
  repeat' split
  all_goals (constructor <;> simp <;> omega)

theorem dec_width (s : ByteArray) (i : Nat) : 1 ≤ (Utf8.decode s i).2 := by rw [decode_by]; exact (decN_width _ _ _ _ _).1

theorem dec_fits (s : ByteArray) (i : Nat) (h : i < s.size) : i + (Utf8.decode s i).2 ≤ s.size := by
  rw [decode_by]
  have := (decN_width (s.size - i) (byN s i) (byN s (i + 1)) (byN s (i + 2)) (byN s (i + 3))).2.2 (by omega)
  omega

/-- the characters of bytes from a place on, behind those ahead; where they end -/
def fin (s : ByteArray) (i : Nat) (acc : List Nat) : List Nat × Nat :=
  if _h : i < s.size then
    if noChar s i then (acc, i) else fin s (i + (Utf8.decode s i).2) (acc ++ [(Utf8.decode s i).1])
  else (acc, i)
termination_by s.size - i
decreasing_by
  have := dec_width s i
  omega

theorem fin_end (s : ByteArray) (i : Nat) (acc : List Nat) (h : ¬ i < s.size) : fin s i acc = (acc, i) := by
  rw [fin, dif_neg h]
theorem fin_bad (s : ByteArray) (i : Nat) (acc : List Nat) (h : i < s.size) (hb : noChar s i) : fin s i acc = (acc, i) := by
  rw [fin, dif_pos h, if_pos hb]
theorem fin_next (s : ByteArray) (i : Nat) (acc : List Nat) (h : i < s.size) (hb : ¬ noChar s i) : fin s i acc = fin s (i + (Utf8.decode s i).2) (acc ++ [(Utf8.decode s i).1]) := by
  rw [fin, dif_pos h, if_neg hb]

theorem fin_ind (s : ByteArray) (P : Nat → List Nat → Prop) (hs : ∀ i acc, P i acc → i < s.size → ¬ noChar s i → P (i + (Utf8.decode s i).2) (acc ++ [(Utf8.decode s i).1])) :
    ∀ k i acc, s.size - i ≤ k → P i acc → P (fin s i acc).2 (fin s i acc).1 ∧ ((fin s i acc).2 < s.size → noChar s (fin s i acc).2) := by
  intro k
  induction k with
  | zero =>
    intro i acc hk h
    rw [fin_end s i acc (by omega)]
    exact ⟨h, fun h' => by simp at h'; omega⟩
  | succ k ih =>
    intro i acc hk h
    by_cases hi : i < s.size
    · by_cases hb : noChar s i
      · rw [fin_bad s i acc hi hb]; exact ⟨h, fun _ => hb⟩
      · rw [fin_next s i acc hi hb]
        have := dec_width s i
        exact ih _ _ (by omega) (hs i acc h hi hb)
    · rw [fin_end s i acc hi]
      exact ⟨h, fun h' => absurd h' hi⟩

theorem fin_bound (s : ByteArray) : (fin s 0 []).2 ≤ s.size ∧ (fin s 0 []).1.length ≤ (fin s 0 []).2 ∧ (∀ r ∈ (fin s 0 []).1, r ≤ 1114111 ∧ ¬ (55296 ≤ r ∧ r ≤ 57343)) ∧ ((fin s 0 []).2 < s.size → noChar s (fin s 0 []).2) := by
  have h := fin_ind s (fun i acc => i ≤ s.size ∧ acc.length ≤ i ∧ ∀ r ∈ acc, r ≤ 1114111 ∧ ¬ (55296 ≤ r ∧ r ≤ 57343)) (by
    rintro i acc ⟨h1, h2, h3⟩ hi _
    refine ⟨dec_fits s i hi, ?_, ?_⟩
    · have := dec_width s i; simp; omega
    · intro r hr
      rcases List.mem_append.1 hr with hr | hr
      · exact h3 r hr
      · rw [List.mem_singleton] at hr
        rw [hr, decode_by]
        exact decN_scalar _ _ _ _ _) s.size 0 [] (by omega) ⟨by omega, by simp, by simp⟩
  exact ⟨h.1.1, h.1.2.1, h.1.2.2, h.2⟩

/-! ### the document's Cut -/

/-- the document's first character of bytes, and how many it has; 0: there is none -/
def cutG (s : ByteArray) : Nat × Nat := if noChar s 0 then (0, 0) else Utf8.decode s 0

/-- a byte that goes on -/
def goesOn (s : ByteArray) (j : Nat) : Prop := j < s.size ∧ byN s j / 64 = 2

/-- what the document's Cut has made of the bytes up to i -/
def partN (s : ByteArray) (r0 : Nat) : Nat → Nat
  | 0 => r0
  | i + 1 => partN s r0 i * 64 + byN s (i + 1) % 64

theorem dec_bad2 (n b0 b1 b2 b3 : Nat) (h : 192 ≤ b0 ∧ b0 < 224) (hc : ¬ (1 < n ∧ b1 / 64 = 2)) : Lib.decodeN n b0 b1 b2 b3 = (65533, 1) := by
  unfold Lib.decodeN
  rw [if_neg (by omega), if_neg (by omega), if_neg (by omega), if_neg (by omega)]
theorem dec_bad3 (n b0 b1 b2 b3 : Nat) (h : 224 ≤ b0 ∧ b0 < 240) (hc : ¬ ((1 < n ∧ b1 / 64 = 2) ∧ (2 < n ∧ b2 / 64 = 2))) : Lib.decodeN n b0 b1 b2 b3 = (65533, 1) := by
  unfold Lib.decodeN
  rw [if_neg (by omega), if_neg (by omega), if_neg (by omega), if_neg (by omega)]
theorem dec_bad4 (n b0 b1 b2 b3 : Nat) (h : 240 ≤ b0 ∧ b0 < 248) (hc : ¬ ((1 < n ∧ b1 / 64 = 2) ∧ (2 < n ∧ b2 / 64 = 2) ∧ (3 < n ∧ b3 / 64 = 2))) : Lib.decodeN n b0 b1 b2 b3 = (65533, 1) := by
  unfold Lib.decodeN
  rw [if_neg (by omega), if_neg (by omega), if_neg (by omega), if_neg (by omega)]
theorem dec_none (n b0 b1 b2 b3 : Nat) (h : 128 ≤ b0 ∧ b0 < 192 ∨ 248 ≤ b0 ∧ b0 < 256) : Lib.decodeN n b0 b1 b2 b3 = (65533, 1) := by
  unfold Lib.decodeN
  rw [if_neg (by omega), if_neg (by omega), if_neg (by omega), if_neg (by omega)]
theorem dec_one (n b0 b1 b2 b3 : Nat) (h : b0 < 128) : Lib.decodeN n b0 b1 b2 b3 = (b0, 1) := by
  unfold Lib.decodeN
  rw [if_pos h]

/-- what the document's Cut answers of a character's numbers -/
def judged (least r n : Nat) : Nat × Nat := if r < least ∨ 1114111 < r ∨ 55296 ≤ r ∧ r ≤ 57343 then (0, 0) else (r, n)

theorem dec_two (n b0 b1 b2 b3 : Nat) (h : 192 ≤ b0 ∧ b0 < 224) (h1 : 1 < n ∧ b1 / 64 = 2) :
    (if Lib.decodeN n b0 b1 b2 b3 = (65533, 1) then (0, 0) else Lib.decodeN n b0 b1 b2 b3) = judged 128 (b0 % 32 * 64 + b1 % 64) 2 := by
  have e : Lib.decodeN n b0 b1 b2 b3 = if b0 % 32 * 64 + b1 % 64 ≥ 128 then (b0 % 32 * 64 + b1 % 64, 2) else (65533, 1) := by
    unfold Lib.decodeN
    rw [if_neg (show ¬ b0 < 128 by omega), if_pos (show b0 / 32 = 6 ∧ (1 < n ∧ b1 / 64 = 2) by omega)]
  rw [e]
  unfold judged
  by_cases hv : b0 % 32 * 64 + b1 % 64 ≥ 128
  · rw [if_pos hv, if_neg (by simp), if_neg (by omega)]
  · rw [if_neg hv, if_pos rfl, if_pos (by omega)]

theorem dec_three (n b0 b1 b2 b3 : Nat) (h : 224 ≤ b0 ∧ b0 < 240) (h1 : (1 < n ∧ b1 / 64 = 2) ∧ (2 < n ∧ b2 / 64 = 2)) :
    (if Lib.decodeN n b0 b1 b2 b3 = (65533, 1) then (0, 0) else Lib.decodeN n b0 b1 b2 b3) = judged 2048 ((b0 % 16 * 64 + b1 % 64) * 64 + b2 % 64) 3 := by
  have e : b0 % 16 * 4096 + b1 % 64 * 64 + b2 % 64 = (b0 % 16 * 64 + b1 % 64) * 64 + b2 % 64 := by omega
  obtain ⟨r, hr⟩ : ∃ r, r = (b0 % 16 * 64 + b1 % 64) * 64 + b2 % 64 := ⟨_, rfl⟩
  have e2 : Lib.decodeN n b0 b1 b2 b3 = if r ≥ 2048 ∧ (r < 55296 ∨ (57344 ≤ r ∧ r ≤ 1114111)) then (r, 3) else (65533, 1) := by
    unfold Lib.decodeN
    rw [if_neg (show ¬ b0 < 128 by omega), if_neg (show ¬ (b0 / 32 = 6 ∧ (1 < n ∧ b1 / 64 = 2)) by omega), if_pos (show b0 / 16 = 14 ∧ (1 < n ∧ b1 / 64 = 2) ∧ (2 < n ∧ b2 / 64 = 2) from ⟨by omega, h1⟩), e, ← hr]
  rw [e2, ← hr]
  unfold judged
  by_cases hv : r ≥ 2048 ∧ (r < 55296 ∨ (57344 ≤ r ∧ r ≤ 1114111))
  · rw [if_pos hv, if_neg (by simp), if_neg (by omega)]
  · rw [if_neg hv, if_pos rfl, if_pos (by omega)]

theorem dec_four (n b0 b1 b2 b3 : Nat) (h : 240 ≤ b0 ∧ b0 < 248) (h1 : (1 < n ∧ b1 / 64 = 2) ∧ (2 < n ∧ b2 / 64 = 2) ∧ (3 < n ∧ b3 / 64 = 2)) :
    (if Lib.decodeN n b0 b1 b2 b3 = (65533, 1) then (0, 0) else Lib.decodeN n b0 b1 b2 b3) = judged 65536 (((b0 % 8 * 64 + b1 % 64) * 64 + b2 % 64) * 64 + b3 % 64) 4 := by
  have e : b0 % 8 * 262144 + b1 % 64 * 4096 + b2 % 64 * 64 + b3 % 64 = ((b0 % 8 * 64 + b1 % 64) * 64 + b2 % 64) * 64 + b3 % 64 := by omega
  obtain ⟨r, hr⟩ : ∃ r, r = ((b0 % 8 * 64 + b1 % 64) * 64 + b2 % 64) * 64 + b3 % 64 := ⟨_, rfl⟩
  have e2 : Lib.decodeN n b0 b1 b2 b3 = if r ≥ 65536 ∧ (r < 55296 ∨ (57344 ≤ r ∧ r ≤ 1114111)) then (r, 4) else (65533, 1) := by
    unfold Lib.decodeN
    rw [if_neg (show ¬ b0 < 128 by omega), if_neg (show ¬ (b0 / 32 = 6 ∧ (1 < n ∧ b1 / 64 = 2)) by omega), if_neg (show ¬ (b0 / 16 = 14 ∧ (1 < n ∧ b1 / 64 = 2) ∧ (2 < n ∧ b2 / 64 = 2)) by omega), if_pos (show b0 / 8 = 30 ∧ (1 < n ∧ b1 / 64 = 2) ∧ (2 < n ∧ b2 / 64 = 2) ∧ (3 < n ∧ b3 / 64 = 2) from ⟨by omega, h1⟩), e, ← hr]
  rw [e2, ← hr]
  unfold judged
  by_cases hv : r ≥ 65536 ∧ (r < 55296 ∨ (57344 ≤ r ∧ r ≤ 1114111))
  · rw [if_pos hv, if_neg (by simp), if_neg (by omega)]
  · rw [if_neg hv, if_pos rfl, if_pos (by omega)]

theorem cutG_by (s : ByteArray) : cutG s = if Lib.decodeN s.size (byN s 0) (byN s 1) (byN s 2) (byN s 3) = (65533, 1) then (0, 0) else Lib.decodeN s.size (byN s 0) (byN s 1) (byN s 2) (byN s 3) := by
  have e : Utf8.decode s 0 = Lib.decodeN s.size (byN s 0) (byN s 1) (byN s 2) (byN s 3) := by rw [decode_by, Nat.sub_zero]
  unfold cutG
  by_cases h : noChar s 0
  · have h' : Lib.decodeN s.size (byN s 0) (byN s 1) (byN s 2) (byN s 3) = (65533, 1) := by rw [← e]; exact h
    rw [if_pos h, if_pos h']
  · have h' : ¬ Lib.decodeN s.size (byN s 0) (byN s 1) (byN s 2) (byN s 3) = (65533, 1) := by rw [← e]; exact h
    rw [if_neg h, if_neg h', e]

theorem cutG_one (s : ByteArray) (h : byN s 0 < 128) : cutG s = (byN s 0, 1) := by
  rw [cutG_by, dec_one _ _ _ _ _ h, if_neg (by simp; omega)]
theorem cutG_none (s : ByteArray) (h : 128 ≤ byN s 0 ∧ byN s 0 < 192 ∨ 248 ≤ byN s 0) : cutG s = (0, 0) := by
  have := byN_lt s 0
  rw [cutG_by, dec_none _ _ _ _ _ (by omega), if_pos rfl]

theorem cutG_stop (s : ByteArray) (n j : Nat) (h1 : 1 ≤ j) (h2 : j < n) (hb : n = 2 ∧ 192 ≤ byN s 0 ∧ byN s 0 < 224 ∨ n = 3 ∧ 224 ≤ byN s 0 ∧ byN s 0 < 240 ∨ n = 4 ∧ 240 ≤ byN s 0 ∧ byN s 0 < 248) (hj : ¬ goesOn s j) : cutG s = (0, 0) := by
  unfold goesOn at hj
  rw [cutG_by]
  rcases hb with ⟨rfl, hb⟩ | ⟨rfl, hb⟩ | ⟨rfl, hb⟩
  · obtain rfl : j = 1 := by omega
    rw [dec_bad2 _ _ _ _ _ hb hj, if_pos rfl]
  · rw [dec_bad3 _ _ _ _ _ hb ?_, if_pos rfl]
    rintro ⟨a1, a2⟩
    rcases (show j = 1 ∨ j = 2 by omega) with rfl | rfl
    · exact hj a1
    · exact hj a2
  · rw [dec_bad4 _ _ _ _ _ hb ?_, if_pos rfl]
    rintro ⟨a1, a2, a3⟩
    rcases (show j = 1 ∨ j = 2 ∨ j = 3 by omega) with rfl | rfl | rfl
    · exact hj a1
    · exact hj a2
    · exact hj a3

theorem cutG_two (s : ByteArray) (hb : 192 ≤ byN s 0 ∧ byN s 0 < 224) (h : ∀ j, 1 ≤ j → j < 2 → goesOn s j) : cutG s = judged 128 (partN s (byN s 0 % 32) 1) 2 := by
  rw [cutG_by, dec_two _ _ _ _ _ hb (h 1 (by omega) (by omega))]; rfl
theorem cutG_three (s : ByteArray) (hb : 224 ≤ byN s 0 ∧ byN s 0 < 240) (h : ∀ j, 1 ≤ j → j < 3 → goesOn s j) : cutG s = judged 2048 (partN s (byN s 0 % 16) 2) 3 := by
  rw [cutG_by, dec_three _ _ _ _ _ hb ⟨h 1 (by omega) (by omega), h 2 (by omega) (by omega)⟩]; rfl
theorem cutG_four (s : ByteArray) (hb : 240 ≤ byN s 0 ∧ byN s 0 < 248) (h : ∀ j, 1 ≤ j → j < 4 → goesOn s j) : cutG s = judged 65536 (partN s (byN s 0 % 8) 3) 4 := by
  rw [cutG_by, dec_four _ _ _ _ _ hb ⟨h 1 (by omega) (by omega), h 2 (by omega) (by omega), h 3 (by omega) (by omega)⟩]; rfl

theorem partN_lt (s : ByteArray) (r0 : Nat) (h : r0 < 32) : ∀ i, partN s r0 i < 32 * 64 ^ i := by
  intro i
  induction i with
  | zero => show r0 < 32 * 64 ^ 0; simpa using h
  | succ i ih => rw [partN, Nat.pow_succ]; omega

/-! ### characters' bytes -/

/-- a character's bytes -/
def encN (r : Nat) : List Nat :=
  if r < 128 then [r] else if r < 2048 then [192 + r / 64, 128 + r % 64] else if r < 65536 then [224 + r / 4096, 128 + r / 64 % 64, 128 + r % 64]
  else [240 + r / 262144, 128 + r / 4096 % 64, 128 + r / 64 % 64, 128 + r % 64]

/-- is it a character's number? -/
def scalar (r : Nat) : Prop := r ≤ 1114111 ∧ ¬ (55296 ≤ r ∧ r ≤ 57343)

theorem enc_dec (r n b0 b1 b2 b3 : Nat) (hr : scalar r) (hn : (encN r).length ≤ n) (h0 : b0 = (encN r).getD 0 0) (h1 : 1 < (encN r).length → b1 = (encN r).getD 1 0) (h2 : 2 < (encN r).length → b2 = (encN r).getD 2 0) (h3 : 3 < (encN r).length → b3 = (encN r).getD 3 0) :
    Lib.decodeN n b0 b1 b2 b3 = (r, (encN r).length) := by
  obtain ⟨hr1, hr2⟩ := hr
  unfold encN at *
  by_cases c1 : r < 128
  · simp only [if_pos c1] at *
    simp at h0
    rw [dec_one _ _ _ _ _ (by omega), h0]; rfl
  · by_cases c2 : r < 2048
    · simp only [if_neg c1, if_pos c2] at *
      simp at h0 h1 hn
      unfold Lib.decodeN
      rw [if_neg (by omega), if_pos (by omega), if_pos (by omega)]
      simp; omega
    · by_cases c3 : r < 65536
      · simp only [if_neg c1, if_neg c2, if_pos c3] at *
        simp at h0 h1 h2 hn
        unfold Lib.decodeN
        rw [if_neg (by omega), if_neg (by omega), if_pos (by omega), if_pos (by omega)]
        simp; omega
      · simp only [if_neg c1, if_neg c2, if_neg c3] at *
        simp at h0 h1 h2 h3 hn
        unfold Lib.decodeN
        rw [if_neg (by omega), if_neg (by omega), if_neg (by omega), if_pos (by omega), if_pos (by omega)]
        simp; omega

theorem dec_enc (n b0 b1 b2 b3 : Nat) (hb : Lib.decodeN n b0 b1 b2 b3 ≠ (65533, 1)) :
    encN (Lib.decodeN n b0 b1 b2 b3).1 = [b0, b1, b2, b3].take (Lib.decodeN n b0 b1 b2 b3).2 := by
  unfold Lib.decodeN at *
  by_cases c1 : b0 < 128
  · simp only [if_pos c1] at *
    unfold encN; rw [if_pos c1]; rfl
  · by_cases c2 : b0 / 32 = 6 ∧ (1 < n ∧ b1 / 64 = 2)
    · simp only [if_neg c1, if_pos c2] at *
      by_cases v : b0 % 32 * 64 + b1 % 64 ≥ 128
      · simp only [if_pos v]
        unfold encN
        rw [if_neg (by omega), if_pos (by omega)]
        simp; omega
      · rw [if_neg v] at hb; exact absurd rfl hb
    · by_cases c3 : b0 / 16 = 14 ∧ (1 < n ∧ b1 / 64 = 2) ∧ (2 < n ∧ b2 / 64 = 2)
      · simp only [if_neg c1, if_neg c2, if_pos c3] at *
        by_cases v : b0 % 16 * 4096 + b1 % 64 * 64 + b2 % 64 ≥ 2048 ∧ (b0 % 16 * 4096 + b1 % 64 * 64 + b2 % 64 < 55296 ∨ (57344 ≤ b0 % 16 * 4096 + b1 % 64 * 64 + b2 % 64 ∧ b0 % 16 * 4096 + b1 % 64 * 64 + b2 % 64 ≤ 1114111))
        · simp only [if_pos v]
          unfold encN
          rw [if_neg (by omega), if_neg (by omega), if_pos (by omega)]
          simp; omega
        · rw [if_neg v] at hb; exact absurd rfl hb
      · by_cases c4 : b0 / 8 = 30 ∧ (1 < n ∧ b1 / 64 = 2) ∧ (2 < n ∧ b2 / 64 = 2) ∧ (3 < n ∧ b3 / 64 = 2)
        · simp only [if_neg c1, if_neg c2, if_neg c3, if_pos c4] at *
          by_cases v : b0 % 8 * 262144 + b1 % 64 * 4096 + b2 % 64 * 64 + b3 % 64 ≥ 65536 ∧ (b0 % 8 * 262144 + b1 % 64 * 4096 + b2 % 64 * 64 + b3 % 64 < 55296 ∨ (57344 ≤ b0 % 8 * 262144 + b1 % 64 * 4096 + b2 % 64 * 64 + b3 % 64 ∧ b0 % 8 * 262144 + b1 % 64 * 4096 + b2 % 64 * 64 + b3 % 64 ≤ 1114111))
          · simp only [if_pos v]
            unfold encN
            rw [if_neg (by omega), if_neg (by omega), if_neg (by omega)]
            simp; omega
          · rw [if_neg v] at hb; exact absurd rfl hb
        · simp only [if_neg c1, if_neg c2, if_neg c3, if_neg c4] at hb
          exact absurd rfl hb
end Go.Proofs.YtjpdhfolfmamcaaDoor
