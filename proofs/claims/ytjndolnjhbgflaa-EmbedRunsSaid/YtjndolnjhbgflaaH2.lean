/-
  Ways from place to place: where they begin, how they grow.
-/
import Derived.Test.YtjndolnjhbgflaaGx
namespace Go.Proofs.Ytjndolnjhbgflaa
set_option linter.unusedVariables false
set_option linter.unusedSectionVars false
set_option linter.unusedSimpArgs false

section
variable (sc : Nat → Option Nat)
def walkF : Nat → Nat → Nat → List Nat
  | 0, _, k => [k]
  | n + 1, B, k => k :: match sc k with
    | some j => if j < B then walkF n B j else []
    | none => []
/-- the way from a place, as far as it lies ahead of B -/
def walk (B k : Nat) : List Nat := walkF sc (B - k) B k
def lst (w : List Nat) : Nat := w.getLast?.getD 0
def ledB (k : Nat) : Bool := (List.range k).any fun i => sc i == some k
/-- where ways begin -/
def hd (B : Nat) : List Nat := (List.range B).filter fun k => !ledB sc k
end

section
variable {sc : Nat → Option Nat} (hs : ∀ k j, sc k = some j → k < j)
include hs

theorem walkF_more (B : Nat) : ∀ (n m k : Nat), k < B → B - k ≤ n → B - k ≤ m → walkF sc n B k = walkF sc m B k
  | 0, _, k, h, h1, _ => by omega
  | _ + 1, 0, k, h, _, h1 => by omega
  | n + 1, m + 1, k, h, h1, h2 => by
    rw [walkF, walkF]
    cases hk : sc k with
    | none => rfl
    | some j =>
      have := hs k j hk
      simp only
      split
      · rw [walkF_more B n m j (by omega) (by omega) (by omega)]
      · rfl
theorem walk_eq {B k : Nat} (h : k < B) : walk sc B k = k :: match sc k with | some j => if j < B then walk sc B j else [] | none => [] := by
  unfold walk
  obtain ⟨n, hn⟩ : ∃ n, B - k = n + 1 := ⟨B - k - 1, by omega⟩
  rw [hn, walkF]
  cases hk : sc k with
  | none => rfl
  | some j =>
    have := hs k j hk
    simp only
    split
    · rw [walkF_more hs B n (B - j) j (by omega) (by omega) (Nat.le_refl _)]
    · rfl
theorem walk_none {B k : Nat} (h : k < B) (hk : ∀ j, sc k = some j → B ≤ j) : walk sc B k = [k] := by
  rw [walk_eq hs h]
  cases hj : sc k with
  | none => rfl
  | some j => simp only; rw [if_neg (by have := hk j hj; omega)]
theorem walk_some {B k j : Nat} (h : j < B) (hk : sc k = some j) : walk sc B k = k :: walk sc B j := by
  rw [walk_eq hs (by have := hs k j hk; omega), hk]
  simp only
  rw [if_pos h]

omit hs in
theorem lst_cons (k : Nat) {w : List Nat} (h : w ≠ []) : lst (k :: w) = lst w := by
  unfold lst
  cases w with
  | nil => exact absurd rfl h
  | cons a w => simp [List.getLast?_cons_cons]
omit hs in
theorem lst_app (w : List Nat) (k : Nat) : lst (w ++ [k]) = k := by unfold lst; simp
theorem walk_ne {B k : Nat} (h : k < B) : walk sc B k ≠ [] := by rw [walk_eq hs h]; simp

/-- induction from behind -/
theorem back {B : Nat} {p : Nat → Prop} (h : ∀ k, k < B → (∀ j, k < j → j < B → p j) → p k) : ∀ k, k < B → p k := by
  intro k hk
  generalize hn : B - k = n
  induction n using Nat.strongRecOn generalizing k with
  | _ n ih => exact h k hk fun j hj hj2 => ih (B - j) (by omega) j hj2 rfl

theorem walk_in {B : Nat} : ∀ k, k < B → ∀ i ∈ walk sc B k, k ≤ i ∧ i < B := by
  refine back hs fun k hk ih i hi => ?_
  rw [walk_eq hs hk] at hi
  rcases List.mem_cons.1 hi with rfl | hi
  · exact ⟨Nat.le_refl _, hk⟩
  · cases hj : sc k with
    | none => rw [hj] at hi; cases hi
    | some j =>
      rw [hj] at hi
      simp only at hi
      split at hi
      · have h1 := hs k j hj
        have := ih j h1 (by assumption) i hi
        omega
      · cases hi
theorem lst_mem {B : Nat} : ∀ k, k < B → lst (walk sc B k) ∈ walk sc B k := by
  intro k hk
  have := walk_ne hs hk
  generalize walk sc B k = w at this ⊢
  cases w with
  | nil => exact absurd rfl this
  | cons a w =>
    have h := List.getLast_mem (l := a :: w) (by simp)
    unfold lst
    rw [List.getLast?_eq_some_getLast (l := a :: w) (by simp)]
    exact h

theorem walk_succ {B : Nat} : ∀ k, k < B → walk sc (B + 1) k = if sc (lst (walk sc B k)) = some B then walk sc B k ++ [B] else walk sc B k := by
  refine back hs fun k hk ih => ?_
  cases hj : sc k with
  | none =>
    rw [walk_none hs (show k < B + 1 by omega) (fun j h => by rw [hj] at h; cases h), walk_none hs hk (fun j h => by rw [hj] at h; cases h)]
    rw [show lst [k] = k from rfl, hj, if_neg (by intro e; cases e)]
  | some j =>
    have hkj := hs k j hj
    rcases Nat.lt_trichotomy j B with h | h | h
    · rw [walk_some hs (show j < B + 1 by omega) hj, walk_some hs h hj, ih j hkj h, lst_cons _ (walk_ne hs h)]
      split <;> rfl
    · subst h
      rw [walk_some hs (Nat.lt_succ_self _) hj, walk_none hs hk (fun i h => by rw [hj] at h; injection h; omega), walk_none hs (Nat.lt_succ_self _) (fun i h => hs _ _ h), show lst [k] = k from rfl, hj, if_pos rfl]
      rfl
    · rw [walk_none hs (show k < B + 1 by omega) (fun i h => by rw [hj] at h; injection h; omega), walk_none hs hk (fun i h => by rw [hj] at h; injection h; omega), show lst [k] = k from rfl, hj, if_neg (by intro e; injection e; omega)]

theorem pred_in {B : Nat} : ∀ k, k < B → ∀ i ∈ walk sc B k, i = k ∨ ∃ i0 ∈ walk sc B k, sc i0 = some i := by
  refine back hs fun k hk ih i hi => ?_
  rw [walk_eq hs hk] at hi
  rcases List.mem_cons.1 hi with rfl | hi
  · exact .inl rfl
  · cases hj : sc k with
    | none => rw [hj] at hi; cases hi
    | some j =>
      rw [hj] at hi
      simp only at hi
      split at hi
      · rename_i hjB
        rw [walk_some hs hjB hj]
        rcases ih j (hs k j hj) hjB i hi with rfl | ⟨i0, h1, h2⟩
        · exact .inr ⟨k, List.mem_cons_self .., hj⟩
        · exact .inr ⟨i0, List.mem_cons_of_mem _ h1, h2⟩
      · cases hi
theorem succ_in {B i j : Nat} (hij : sc i = some j) (hj : j < B) : ∀ k, k < B → i ∈ walk sc B k → j ∈ walk sc B k := by
  refine back hs fun k hk ih hi => ?_
  rw [walk_eq hs hk] at hi
  rcases List.mem_cons.1 hi with rfl | hi
  · rw [walk_some hs hj hij, walk_eq hs hj]
    simp
  · cases hk2 : sc k with
    | none => rw [hk2] at hi; cases hi
    | some m =>
      rw [hk2] at hi
      simp only at hi
      split at hi
      · rename_i hm
        rw [walk_some hs hm hk2]
        exact List.mem_cons_of_mem _ (ih m (hs k m hk2) hm hi)
      · cases hi
theorem last_or {B i : Nat} : ∀ k, k < B → i ∈ walk sc B k → i = lst (walk sc B k) ∨ ∃ j, sc i = some j ∧ j < B := by
  refine back hs fun k hk ih hi => ?_
  cases hk2 : sc k with
  | none =>
    have h0 := walk_none hs hk (fun j h => by rw [hk2] at h; cases h)
    rw [h0] at hi ⊢
    exact .inl (List.mem_singleton.1 hi)
  | some m =>
    by_cases hm : m < B
    · rw [walk_some hs hm hk2] at hi ⊢
      rw [lst_cons _ (walk_ne hs hm)]
      rcases List.mem_cons.1 hi with rfl | hi
      · exact .inr ⟨m, hk2, hm⟩
      · exact ih m (hs k m hk2) hm hi
    · have h0 := walk_none hs hk (fun j h => by rw [hk2] at h; injection h; omega)
      rw [h0] at hi ⊢
      exact .inl (List.mem_singleton.1 hi)
theorem lst_out {B : Nat} : ∀ k, k < B → ∀ j, sc (lst (walk sc B k)) = some j → B ≤ j := by
  refine back hs fun k hk ih j hj => ?_
  cases hk2 : sc k with
  | none =>
    rw [walk_none hs hk (fun j h => by rw [hk2] at h; cases h), show lst [k] = k from rfl, hk2] at hj
    cases hj
  | some m =>
    by_cases hm : m < B
    · rw [walk_some hs hm hk2, lst_cons _ (walk_ne hs hm)] at hj
      exact ih m (hs k m hk2) hm j hj
    · rw [walk_none hs hk (fun j h => by rw [hk2] at h; injection h; omega), show lst [k] = k from rfl, hk2] at hj
      injection hj with hj
      omega

omit hs in
theorem led_iff {k : Nat} : ledB sc k = true ↔ ∃ i, i < k ∧ sc i = some k := by
  unfold ledB
  rw [List.any_eq_true]
  simp
omit hs in
theorem hd_mem {B k : Nat} : k ∈ hd sc B ↔ k < B ∧ ledB sc k = false := by
  unfold hd
  rw [List.mem_filter]
  simp
omit hs in
theorem hd_succ (B : Nat) : hd sc (B + 1) = hd sc B ++ (if ledB sc B = true then [] else [B]) := by
  unfold hd
  rw [List.range_succ, List.filter_append]
  cases h : ledB sc B <;> simp [h]

theorem cover {B : Nat} : ∀ i, i < B → ∃ h ∈ hd sc B, i ∈ walk sc B h := by
  intro i
  induction i using Nat.strongRecOn with
  | _ i ih =>
    intro hi
    cases hl : ledB sc i with
    | false => exact ⟨i, hd_mem.2 ⟨hi, hl⟩, by rw [walk_eq hs hi]; simp⟩
    | true =>
      obtain ⟨i0, h1, h2⟩ := led_iff.1 hl
      obtain ⟨h, hh, hw⟩ := ih i0 h1 (by omega)
      exact ⟨h, hh, succ_in hs h2 hi h (hd_mem.1 hh).1 hw⟩

variable (inj : ∀ i i' j, sc i = some j → sc i' = some j → i = i')
include inj

theorem disj {B h h' : Nat} (hh : ledB sc h = false) (hh' : ledB sc h' = false) (h1 : h < B) (h2 : h' < B) : ∀ i, i ∈ walk sc B h → i ∈ walk sc B h' → h = h' := by
  intro i
  induction i using Nat.strongRecOn with
  | _ i ih =>
    intro a b
    rcases pred_in hs h h1 i a with e | ⟨i0, g1, g2⟩
    · rcases pred_in hs h' h2 i b with e' | ⟨i1, g3, g4⟩
      · rw [← e, ← e']
      · rw [← e, led_iff.2 ⟨i1, hs _ _ g4, g4⟩] at hh; cases hh
    · rcases pred_in hs h' h2 i b with e' | ⟨i1, g3, g4⟩
      · rw [← e', led_iff.2 ⟨i0, hs _ _ g2, g2⟩] at hh'; cases hh'
      · have := inj _ _ _ g2 g4
        subst this
        exact ih i0 (hs _ _ g2) g1 g3

/-- a run of places, each leading to the next one -/
theorem run_step {f : Nat} : ∀ (n : Nat), (∀ j, f < j → j < f + n + 1 → sc (j - 1) = some j) →
    hd sc (f + n + 1) = hd sc f ++ (if ledB sc f = true then [] else [f]) ∧
    (∀ h ∈ hd sc f, walk sc (f + n + 1) h = if sc (lst (walk sc f h)) = some f then walk sc f h ++ List.range' f (n + 1) else walk sc f h) ∧
    walk sc (f + n + 1) f = List.range' f (n + 1)
  | 0, _ => by
    refine ⟨hd_succ f, fun h hh => ?_, ?_⟩
    · rw [walk_succ hs h (hd_mem.1 hh).1]
      rfl
    · rw [walk_none hs (by omega) (fun j h => by have := hs _ _ h; omega)]
      rfl
  | n + 1, hr => by
    obtain ⟨a, b, c⟩ := run_step n fun j h1 h2 => hr j h1 (by omega)
    have hl : sc (f + n) = some (f + n + 1) := hr (f + n + 1) (by omega) (by omega)
    have hled : ledB sc (f + n + 1) = true := led_iff.2 ⟨f + n, by omega, hl⟩
    have hlast : ∀ w : List Nat, lst (w ++ List.range' f (n + 1)) = f + n := by
      intro w
      rw [List.range'_concat, ← List.append_assoc, lst_app]; omega
    refine ⟨?_, fun h hh => ?_, ?_⟩
    · rw [show f + (n + 1) + 1 = (f + n + 1) + 1 by omega, hd_succ, hled, if_pos rfl, List.append_nil, a]
    · have hf := (hd_mem.1 hh).1
      rw [show f + (n + 1) + 1 = (f + n + 1) + 1 by omega, walk_succ hs h (by omega), b h hh]
      by_cases hj : sc (lst (walk sc f h)) = some f
      · rw [if_pos hj, if_pos hj, hlast, hl, if_pos rfl, List.append_assoc]
        congr 1
        rw [List.range'_concat (n := n + 1)]
        congr 2
        omega
      · rw [if_neg hj, if_neg hj]
        rw [if_neg]
        intro e
        have h1 := inj _ _ _ e hl
        have h2 := (walk_in hs h hf _ (lst_mem hs h hf)).2
        omega
    · rw [show f + (n + 1) + 1 = (f + n + 1) + 1 by omega, walk_succ hs f (by omega), c]
      have := hlast []
      rw [List.nil_append] at this
      rw [this, hl, if_pos rfl, List.range'_concat (n := n + 1)]
      congr 2
      omega
end
end Go.Proofs.Ytjndolnjhbgflaa
