/-
  The document's forms, by lists.
-/
import Derived.Test.YtbdhgjaoojimmaaDoorUt
import Derived.Test.YtbdhgjaoojimmaaDoorR0
import Derived.Test.YtbdhgjaoojimmaaDoorJn1
namespace Go.Proofs.YtbdhgjaoojimmaaDoor
open Go Go.RowKit _root_.Jn
set_option linter.unusedVariables false
set_option linter.unusedSimpArgs false
section
variable {N : Nat} {l : List Int}
theorem rJoins_eq (a b : Int) : rJoins N a b = some (jn jnC a b) := by
  unfold rJoins jn opn tkn
  rw [show rfJn N a = some (jnC a) from rfl, show rfJn N b = some (jnC b) from rfl]
  simp only [Option.bind_some]
  by_cases a2 : jnC a = 2 <;> by_cases a3 : jnC a = 3 <;> by_cases a5 : jnC a = 5 <;> by_cases b1 : jnC b = 1 <;> by_cases b2 : jnC b = 2 <;> by_cases b3 : jnC b = 3 <;> simp [a2, a3, a5, b1, b2, b3]
/-- the last one that is not passed -/
def prv : Option Int → List Int → Option Int
  | p, [] => p
  | p, x :: t => prv (if pass jnC x then p else some x) t
theorem prv_app : ∀ (a b : List Int) (p : Option Int), prv p (a ++ b) = prv (prv p a) b
  | [], _, _ => rfl
  | x :: a, b, p => prv_app a b _
theorem prv_succ {i : Nat} (h : i < l.length) : prv none (l.take (i + 1)) = if pass jnC (l.getD i 0) then prv none (l.take i) else some (l.getD i 0) := by
  rw [take_succ_getD h, prv_app]; rfl
theorem pass_iff (x : Int) : pass jnC x = true ↔ jnC x = 4 := by simp [pass]
theorem rAhd_L1_eq (hl : l.length ≤ 100000) : ∀ (f k : Nat), k < f → k ≤ l.length → ∃ m : Int, rAhd_L1 N l f ((k : Int) - 1) = some m ∧ ((m < 0 ∧ prv none (l.take k) = none) ∨ ∃ j : Nat, m = (j : Int) ∧ j < k ∧ prv none (l.take k) = some (l.getD j 0))
  | 0, k, h, _ => by omega
  | f + 1, 0, _, _ => ⟨-1, by unfold rAhd_L1; rw [if_neg (by omega)]; rfl, .inl ⟨by omega, by simp [prv]⟩⟩
  | f + 1, k + 1, hf, hk => by
    unfold rAhd_L1
    have e : ((k + 1 : Nat) : Int) - 1 = (k : Int) := by omega
    have e2 : IntKind.i64.wrap ((k : Int) - 1) = (k : Int) - 1 := w64s (by omega) (by omega)
    rw [e, if_pos (by omega), ix_nat (getD_some (by omega)), Option.bind_some, show rfJn N (l.getD k 0) = some (jnC (l.getD k 0)) from rfl, Option.bind_some, e2, prv_succ (by omega)]
    by_cases hp : jnC (l.getD k 0) = 4
    · rw [if_pos hp, if_pos ((pass_iff _).2 hp)]
      obtain ⟨m, h1, h2⟩ := rAhd_L1_eq hl f k (by omega) (by omega)
      refine ⟨m, h1, ?_⟩
      rcases h2 with h2 | ⟨j, h3, h4, h5⟩
      · exact .inl h2
      · exact .inr ⟨j, h3, by omega, h5⟩
    · rw [if_neg hp, if_neg (fun h => hp ((pass_iff _).1 h))]
      exact ⟨k, rfl, .inr ⟨k, rfl, by omega, rfl⟩⟩
theorem rAhd_eq (hl : l.length ≤ 100000) (hN : l.length + 1 < N) {i : Nat} (h : i < l.length) : rAhd N l (i : Int) = some (jo jnC (prv none (l.take i)) (l.getD i 0)) := by
  unfold rAhd
  obtain ⟨m, h1, h2⟩ := rAhd_L1_eq (N := N) hl N i (by omega) (by omega)
  rw [w64s (by omega) (by omega), h1, Option.bind_some]
  rcases h2 with ⟨h2, h3⟩ | ⟨j, rfl, h4, h5⟩
  · rw [if_neg (by omega), h3]; rfl
  · rw [if_pos (by omega), ix_nat (getD_some (by omega)), Option.bind_some, ix_nat (getD_some h), Option.bind_some, rJoins_eq, h5]; rfl
theorem rBhd_L1_eq (hl : l.length ≤ 100000) : ∀ (f k : Nat), l.length - k < f → k ≤ l.length → ∃ m : Nat, rBhd_L1 N l f (k : Int) = some (m : Int) ∧ ((m = l.length ∧ nxt jnC (l.drop k) = none) ∨ (m < l.length ∧ nxt jnC (l.drop k) = some (l.getD m 0)))
  | 0, k, h, _ => by omega
  | f + 1, k, hf, hk => by
    unfold rBhd_L1
    by_cases h : k < l.length
    · have e2 : IntKind.i64.wrap ((k : Int) + 1) = ((k + 1 : Nat) : Int) := by rw [w64s (by omega) (by omega)]; omega
      rw [if_pos (by omega), ix_nat (getD_some h), Option.bind_some, show rfJn N (l.getD k 0) = some (jnC (l.getD k 0)) from rfl, Option.bind_some, e2, getD_drop h, nxt]
      by_cases hp : jnC (l.getD k 0) = 4
      · rw [if_pos hp, if_pos ((pass_iff _).2 hp)]
        exact rBhd_L1_eq hl f (k + 1) (by omega) (by omega)
      · rw [if_neg hp, if_neg (fun h => hp ((pass_iff _).1 h))]
        exact ⟨k, rfl, .inr ⟨h, rfl⟩⟩
    · rw [if_neg (by omega)]
      exact ⟨k, rfl, .inl ⟨by omega, by rw [List.drop_eq_nil_of_le (by omega)]; rfl⟩⟩
theorem rBhd_eq (hl : l.length ≤ 100000) (hN : l.length + 1 < N) {i : Nat} (h : i < l.length) : rBhd N l (i : Int) = some (jb jnC (l.getD i 0) (nxt jnC (l.drop (i + 1)))) := by
  unfold rBhd
  obtain ⟨m, h1, h2⟩ := rBhd_L1_eq (N := N) hl N (i + 1) (by omega) (by omega)
  have e2 : IntKind.i64.wrap ((i : Int) + 1) = ((i + 1 : Nat) : Int) := by rw [w64s (by omega) (by omega)]; omega
  rw [e2, h1, Option.bind_some]
  rcases h2 with ⟨rfl, h3⟩ | ⟨h2, h3⟩
  · rw [if_neg (by omega), h3]; rfl
  · rw [if_pos (by omega), ix_nat (getD_some h), Option.bind_some, ix_nat (getD_some h2), Option.bind_some, rJoins_eq, h3]; rfl
theorem rForms_L1_eq (hl : l.length ≤ 100000) (hN : l.length + 1 < N) : ∀ (f i : Nat) (out : List Int), l.length - i < f → i ≤ l.length → out.length = i → rForms_L1 N l f out (i : Int) = some (out ++ fms jnC (prv none (l.take i)) (l.drop i))
  | 0, i, _, h, _, _ => by omega
  | f + 1, i, out, hf, hi, ho => by
    unfold rForms_L1
    by_cases h : i < l.length
    · have e2 : IntKind.i64.wrap ((i : Int) + 1) = ((i + 1 : Nat) : Int) := by rw [w64s (by omega) (by omega)]; omega
      have ih : ∀ y : Int, (apx out [y]).bind (fun l' => rForms_L1 N l f l' ((i + 1 : Nat) : Int)) = some (out ++ y :: fms jnC (prv none (l.take (i + 1))) (l.drop (i + 1))) := by
        intro y
        rw [apx_ok (by simp; omega), Option.bind_some, rForms_L1_eq hl hN f (i + 1) (out ++ [y]) (by omega) h (by simp; omega), List.append_assoc]
        rfl
      rw [if_pos (by omega), rAhd_eq hl hN h, Option.bind_some, rBhd_eq hl hN h, Option.bind_some, ix_nat (getD_some h), Option.bind_some, show rfJn N (l.getD i 0) = some (jnC (l.getD i 0)) from rfl, Option.bind_some, e2]
      rw [getD_drop h, fms, ← prv_succ h]
      generalize jo jnC (prv none (l.take i)) (l.getD i 0) = a
      generalize jb jnC (l.getD i 0) (nxt jnC (l.drop (i + 1))) = b
      unfold form
      by_cases t1 : jnC (l.getD i 0) = 1
      · rw [if_pos t1, if_pos t1]; cases a <;> exact ih _
      · rw [if_neg t1, if_neg t1]
        by_cases t5 : jnC (l.getD i 0) = 5
        · rw [if_pos t5, if_pos t5]; cases b <;> exact ih _
        · rw [if_neg t5, if_neg t5]
          by_cases t2 : jnC (l.getD i 0) = 2
          · rw [if_pos t2, if_pos t2]; cases a <;> cases b <;> exact ih _
          · rw [if_neg t2, if_neg t2]; exact ih _
    · rw [if_neg (by omega), List.drop_eq_nil_of_le (by omega)]
      simp [fms]
theorem rForms_eq (hl : l.length ≤ 100000) (hN : l.length + 1 < N) : rForms N l = some (fms jnC none l) := by
  unfold rForms
  have := rForms_L1_eq (N := N) hl hN N 0 [] (by omega) (by omega) rfl
  rw [show ((0 : Nat) : Int) = 0 from rfl] at this
  rw [this]
  rfl
/-- a form at a place -/
theorem fms_at : ∀ (l : List Int) (p : Option Int) (i : Nat), i < l.length → (fms jnC p l)[i]? = some (form (jnC (l.getD i 0)) (jo jnC (prv p (l.take i)) (l.getD i 0)) (jb jnC (l.getD i 0) (nxt jnC (l.drop (i + 1)))))
  | [], _, _, h => by simp at h
  | x :: t, p, 0, _ => rfl
  | x :: t, p, i + 1, h => by
    have := fms_at t (if pass jnC x then p else some x) i (by simpa using h)
    simpa [fms, prv] using this
end
end Go.Proofs.YtbdhgjaoojimmaaDoor
