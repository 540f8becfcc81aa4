/-
  What was put is read again, as lists; a text's letters.
-/
import Derived.Test.YtlpnikolnohcaaaPutS
namespace Go.Proofs.Ytlpnikolnohcaaa
open Go Go.RowKit

theorem lowB_len (k : Nat) (n : Int) : (lowB k n).length = k := by
  induction k with
  | zero => rfl
  | succ k ih => simp [lowB, ih]

theorem lowB_b (k : Nat) (n : Int) : AllB (lowB k n) := by
  induction k with
  | zero => intro x hx; cases hx
  | succ k ih =>
    intro x hx
    rcases List.mem_cons.1 hx with rfl | h
    · omega
    · exact ih x h

theorem putR_b : ∀ (l : List Int) (P : List Nat) (b : List Int), putR l P = some b → AllB b := by
  intro l
  induction l with
  | nil => intro P b h; simp only [putR, Option.some.injEq] at h; subst h; intro x hx; cases hx
  | cons n l ih =>
    intro P b h
    cases P with
    | nil => simp [putR] at h
    | cons c P =>
      simp only [putR] at h
      split at h
      · cases hr : putR l P with
        | none => rw [hr] at h; cases h
        | some b' =>
          rw [hr] at h
          simp only [Option.map_some, Option.some.injEq] at h
          subst h
          intro x hx
          rcases List.mem_append.1 hx with h' | h'
          · exact lowB_b _ _ x h'
          · exact ih P b' hr x h'
      · cases h

theorem putR_cons {n : Int} {l : List Int} {c : Nat} {P : List Nat} {b : List Int} (h : putR (n :: l) (c :: P) = some b) : fitsC c n = true ∧ ∃ b', b = lowB (sizeC c) n ++ b' ∧ putR l P = some b' := by
  simp only [putR] at h
  split at h
  · rename_i hf
    cases hr : putR l P with
    | none => rw [hr] at h; cases h
    | some b' =>
      rw [hr] at h
      simp only [Option.map_some, Option.some.injEq] at h
      exact ⟨hf, b', h.symm, rfl⟩
  · cases h

theorem putR_step {l : List Int} {P : List Nat} {b : List Int} {i p : Nat} (hi : i < l.length) (hP : l.length = P.length) (h : putR (l.drop i) (P.drop i) = some (b.drop p)) :
    fitsC (P.getD i 0) l[i] = true ∧ b.drop p = lowB (sizeC (P.getD i 0)) l[i] ++ b.drop (p + sizeC (P.getD i 0)) ∧ putR (l.drop (i + 1)) (P.drop (i + 1)) = some (b.drop (p + sizeC (P.getD i 0))) := by
  have hiP : i < P.length := by omega
  rw [List.drop_eq_getElem_cons hi, List.drop_eq_getElem_cons hiP] at h
  obtain ⟨hf, b', hb, hr⟩ := putR_cons h
  have e : P.getD i 0 = P[i] := by simp [hiP]
  rw [e]
  have hd : b.drop (p + sizeC P[i]) = b' := by
    rw [← List.drop_drop, hb, List.drop_left' (lowB_len _ _)]
  exact ⟨hf, by rw [hd]; exact hb, by rw [hd]; exact hr⟩

/-- the byte at a place behind a piece's beginning -/
theorem at_piece {b x : List Int} {p : Nat} {y : List Int} (h : b.drop p = x ++ y) (j : Nat) (hj : j < x.length) : b.getD (p + j) 0 = x.getD j 0 := by
  have e : b.getD (p + j) 0 = (b.drop p).getD j 0 := by
    rw [List.getD_eq_getElem?_getD, List.getD_eq_getElem?_getD, List.getElem?_drop]
  rw [e, h, List.getD_eq_getElem?_getD, List.getD_eq_getElem?_getD, List.getElem?_append_left hj]

theorem piece_in {b x : List Int} {p : Nat} {y : List Int} (h : b.drop p = x ++ y) (hx : 1 ≤ x.length) : p + x.length ≤ b.length := by
  have := congrArg List.length h
  simp at this
  omega

theorem plan_len (s : ByteArray) : (plan s).length = s.size := by simp [plan]

theorem idx_s (W : World) (s : ByteArray) (i : Nat) (h : i < s.size) : (Instr.index 9 (.string s) (.int .i64 (i : Int))).run Try.prog W = .ok (.int .u8 (((plan s).getD i 0 : Nat) : Int)) W := by
  have hi : i < s.data.size := h
  rw [run_index_string _ _ s .i64 _ Try.underlying9, dif_pos ⟨by omega, by omega⟩]
  congr 3
  simp only [Int.toNat_natCast]
  rw [List.getD_eq_getElem?_getD]
  simp only [plan, List.getElem?_map]
  rw [Array.getElem?_toList, Array.getElem?_eq_getElem hi]
  rfl
end Go.Proofs.Ytlpnikolnohcaaa
