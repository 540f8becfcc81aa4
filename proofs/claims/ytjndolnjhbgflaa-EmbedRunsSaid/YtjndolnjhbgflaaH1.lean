/-
  What Match tells of initiators and PDIs.
-/
import Derived.Test.YtjndolnjhbgflaaHQ
namespace Go.Proofs.Ytjndolnjhbgflaa
open Go Go.RowKit
set_option linter.unusedVariables false
set_option linter.unusedSectionVars false
set_option linter.unusedSimpArgs false

/-- the PDI of an initiator -/
def cl (l : List Int) (k : Nat) : Option Nat := if isInit (l.getD k 0) = true then (closeR 1 (l.drop (k + 1))).map (k + 1 + ·) else none

theorem cl_at {l : List Int} {k v : Nat} (h : cl l k = some v) : isInit (l.getD k 0) = true ∧ k < v ∧ v < l.length ∧ l.getD v 0 = 23 := by
  unfold cl at h
  split at h
  · rename_i hi
    obtain ⟨o, h1, rfl⟩ := Option.map_eq_some_iff.1 h
    obtain ⟨h2, h3⟩ := close_at _ _ _ h1
    rw [drop_getD] at h2
    rw [List.length_drop] at h3
    exact ⟨hi, by omega, by omega, h2⟩
  · cases h

theorem close_split : ∀ (r : List Int) (d o j : Nat), 1 ≤ d → closeR d r = some o → j ≤ o → ∃ d', 1 ≤ d' ∧ closeR d' (r.drop j) = some (o - j)
  | r, d, o, 0, hd, h, _ => ⟨d, hd, by simpa using h⟩
  | [], _, _, _ + 1, _, h, _ => by cases h
  | c :: r, d, o, j + 1, hd, h, hj => by
    by_cases h11 : c = 11
    · subst h11; rw [closeR_b] at h; cases h
    cases hc : isInit c with
    | true =>
      rw [closeR_init hc] at h
      obtain ⟨o', k1, rfl⟩ := Option.map_eq_some_iff.1 h
      obtain ⟨d', g1, g2⟩ := close_split r (d + 1) o' j (by omega) k1 (by omega)
      exact ⟨d', g1, by rw [List.drop_succ_cons, g2]; congr 1; omega⟩
    | false =>
      by_cases h23 : c = 23
      · subst h23
        by_cases hd1 : d ≤ 1
        · obtain rfl : d = 1 := by omega
          rw [closeR_p1] at h
          injection h with h
          omega
        · rw [closeR_p (by omega)] at h
          obtain ⟨o', k1, rfl⟩ := Option.map_eq_some_iff.1 h
          obtain ⟨d', g1, g2⟩ := close_split r (d - 1) o' j (by omega) k1 (by omega)
          exact ⟨d', g1, by rw [List.drop_succ_cons, g2]; congr 1; omega⟩
      · rw [closeR_o h11 h23 hc] at h
        obtain ⟨o', k1, rfl⟩ := Option.map_eq_some_iff.1 h
        obtain ⟨d', g1, g2⟩ := close_split r d o' j hd k1 (by omega)
        exact ⟨d', g1, by rw [List.drop_succ_cons, g2]; congr 1; omega⟩

theorem cl_inj_lt {l : List Int} {i j v : Nat} (h1 : cl l i = some v) (h2 : cl l j = some v) : ¬ i < j := by
  intro hij
  obtain ⟨hi, _, _, _⟩ := cl_at h1
  obtain ⟨hj, hjv, _, _⟩ := cl_at h2
  unfold cl at h1 h2
  rw [if_pos hi] at h1
  rw [if_pos hj] at h2
  obtain ⟨o, k1, e1⟩ := Option.map_eq_some_iff.1 h1
  obtain ⟨p, k2, e2⟩ := Option.map_eq_some_iff.1 h2
  obtain ⟨d, g1, g2⟩ := close_split _ 1 o (j - (i + 1)) (Nat.le_refl _) k1 (by omega)
  rw [List.drop_drop, show i + 1 + (j - (i + 1)) = j by omega] at g2
  have hjl : j < l.length := by
    rcases Nat.lt_or_ge j l.length with h | h
    · exact h
    · rw [List.drop_eq_nil_of_le h] at g2; cases g2
  rw [drop_e hjl, closeR_init hj] at g2
  obtain ⟨q, k3, e3⟩ := Option.map_eq_some_iff.1 g2
  have := closeR_lt (l.drop (j + 1)) 1 (d + 1) p q (Nat.le_refl _) (by omega) k2 k3
  omega
theorem cl_inj {l : List Int} {i j v : Nat} (h1 : cl l i = some v) (h2 : cl l j = some v) : i = j := by
  have a := cl_inj_lt h1 h2
  have b := cl_inj_lt h2 h1
  omega

/-- what is told of a place, when the initiators ahead of i have been gone through -/
def mI (l : List Int) (i x : Nat) (v : Int) : Prop :=
  (isInit (l.getD x 0) = true → v = if x < i then (match cl l x with | some y => (y : Int) | none => -1) else -1) ∧
  (isInit (l.getD x 0) = false → (∃ y, y < i ∧ cl l y = some x ∧ v = (y : Int)) ∨ ((∀ y, y < i → cl l y ≠ some x) ∧ v = -1))

theorem matchF_spec (l : List Int) : ∀ (n i : Nat) (out : List Int), i + n = l.length → out.length = l.length → (∀ x, x < l.length → mI l i x (out.getD x 0)) → ∀ x, x < l.length → mI l l.length x ((matchF l n i out).getD x 0)
  | 0, i, out, h, _, hI, x, hx => by
    obtain rfl : i = l.length := by omega
    exact hI x hx
  | n + 1, i, out, h, hlen, hI, x, hx => by
    rw [matchF]
    refine matchF_spec l n (i + 1) _ (by omega) (by split <;> simp [pairUp_len, hlen]) (fun y hy => ?_) x hx
    have hi : i < l.length := by omega
    cases hin : isInit (l.getD i 0) with
    | false =>
      have hno : cl l i = none := by unfold cl; rw [hin]; rfl
      rw [if_neg (by decide)]
      obtain ⟨a1, a2⟩ := hI y hy
      refine ⟨fun h1 => ?_, fun h1 => ?_⟩
      · rw [a1 h1]
        by_cases hyi : y = i
        · rw [hyi, hin] at h1; cases h1
        · by_cases h2 : y < i
          · rw [if_pos h2, if_pos (by omega)]
          · rw [if_neg h2, if_neg (by omega)]
      · rcases a2 h1 with ⟨z, z1, z2, z3⟩ | ⟨z1, z2⟩
        · exact .inl ⟨z, by omega, z2, z3⟩
        · refine .inr ⟨fun z hz => ?_, z2⟩
          by_cases hzi : z = i
          · rw [hzi, hno]; intro e; cases e
          · exact z1 z (by omega)
    | true =>
      rw [if_pos rfl]
      have hcl : cl l i = (closeR 1 (l.drop (i + 1))).map (i + 1 + ·) := by unfold cl; rw [if_pos hin]
      obtain ⟨a1, a2⟩ := hI y hy
      cases hc : closeR 1 (l.drop (i + 1)) with
      | none =>
        rw [hc] at hcl
        have hno : cl l i = none := hcl
        show mI l (i + 1) y (out.getD y 0)
        refine ⟨fun h1 => ?_, fun h1 => ?_⟩
        · rw [a1 h1]
          by_cases hyi : y = i
          · rw [hyi, if_neg (by omega), if_pos (by omega), hno]
          · by_cases h2 : y < i
            · rw [if_pos h2, if_pos (by omega)]
            · rw [if_neg h2, if_neg (by omega)]
        · rcases a2 h1 with ⟨z, z1, z2, z3⟩ | ⟨z1, z2⟩
          · exact .inl ⟨z, by omega, z2, z3⟩
          · refine .inr ⟨fun z hz => ?_, z2⟩
            by_cases hzi : z = i
            · rw [hzi, hno]; intro e; cases e
            · exact z1 z (by omega)
      | some o =>
        rw [hc] at hcl
        have hsome : cl l i = some (i + 1 + o) := hcl
        obtain ⟨_, g2, g3, g4⟩ := cl_at hsome
        show mI l (i + 1) y (((out.set i ((i + 1 + o : Nat) : Int)).set (i + 1 + o) (i : Int)).getD y 0)
        have hni : isInit (l.getD (i + 1 + o) 0) = false := by rw [g4]; rfl
        by_cases hy1 : y = i + 1 + o
        · subst hy1
          rw [List.getD_eq_getElem?_getD, List.getElem?_set_self (by rw [List.length_set]; omega)]
          refine ⟨fun h1 => (by rw [hni] at h1; cases h1), fun _ => .inl ⟨i, by omega, hsome, rfl⟩⟩
        · rw [List.getD_eq_getElem?_getD, List.getElem?_set_ne (by omega)]
          by_cases hyi : y = i
          · subst hyi
            rw [List.getElem?_set_self (by omega)]
            refine ⟨fun _ => by rw [if_pos (by omega), hsome]; rfl, fun h1 => (by rw [hin] at h1; cases h1)⟩
          · rw [List.getElem?_set_ne (by omega), ← List.getD_eq_getElem?_getD]
            refine ⟨fun h1 => ?_, fun h1 => ?_⟩
            · rw [a1 h1]
              by_cases h2 : y < i
              · rw [if_pos h2, if_pos (by omega)]
              · rw [if_neg h2, if_neg (by omega)]
            · rcases a2 h1 with ⟨z, z1, z2, z3⟩ | ⟨z1, z2⟩
              · exact .inl ⟨z, by omega, z2, z3⟩
              · refine .inr ⟨fun z hz => ?_, z2⟩
                by_cases hzi : z = i
                · rw [hzi, hsome]; intro e; injection e with e; exact hy1 e.symm
                · exact z1 z (by omega)

theorem match_spec (l : List Int) (x : Nat) (hx : x < l.length) : mI l l.length x ((matchS l).getD x 0) := by
  refine matchF_spec l l.length 0 _ (by omega) (by simp) (fun y hy => ?_) x hx
  rw [List.getD_eq_getElem?_getD, List.getElem?_replicate, if_pos hy]
  exact ⟨fun _ => by rw [if_neg (by omega)]; rfl, fun _ => .inr ⟨fun z hz => by omega, rfl⟩⟩
theorem match_init {l : List Int} {x : Nat} (hx : x < l.length) (h : isInit (l.getD x 0) = true) : (matchS l).getD x 0 = match cl l x with | some y => (y : Int) | none => -1 := by
  rw [(match_spec l x hx).1 h, if_pos hx]
theorem match_other {l : List Int} {x : Nat} (hx : x < l.length) (h : isInit (l.getD x 0) = false) : (matchS l).getD x 0 < (x : Int) := by
  rcases (match_spec l x hx).2 h with ⟨y, y1, y2, y3⟩ | ⟨_, y2⟩
  · rw [y3]
    have := (cl_at y2).2.1
    omega
  · rw [y2]; omega
theorem matchF_len (l : List Int) : ∀ (n i : Nat) (out : List Int), (matchF l n i out).length = out.length
  | 0, _, _ => rfl
  | n + 1, i, out => by rw [matchF, matchF_len l n]; split <;> simp [pairUp_len]
theorem matchS_len (l : List Int) : (matchS l).length = l.length := by unfold matchS; rw [matchF_len]; simp
end Go.Proofs.Ytjndolnjhbgflaa
