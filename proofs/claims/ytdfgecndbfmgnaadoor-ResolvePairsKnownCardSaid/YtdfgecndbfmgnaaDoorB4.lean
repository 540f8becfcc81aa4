/-
  The document's rule of pairs, by lists: rPairs_eq.
-/
import Derived.Test.YtdfgecndbfmgnaaDoorB3
namespace Go.Proofs.YtdfgecndbfmgnaaDoor
open Go Go.RowKit
set_option linter.unusedVariables false
set_option linter.unusedSectionVars false
set_option linter.unusedSimpArgs false

/-! ### where the pairs lie -/
theorem runB_in : ∀ (t : List (Int × Int)) (i : Int) (st : List (Int × Int)), (∀ x ∈ st, 0 ≤ x.2 ∧ x.2 < i) → 0 ≤ i → ∀ p ∈ runB i t st, 0 ≤ p.1 ∧ p.1 < p.2 ∧ p.2 < i + t.length
  | [], _, _, _, _, p, hp => by cases hp
  | x :: t, i, st, hst, hi, p, hp => by
    have up : ∀ st, (∀ x ∈ st, 0 ≤ x.2 ∧ x.2 < i + 1) → p ∈ runB (i + 1) t st → 0 ≤ p.1 ∧ p.1 < p.2 ∧ p.2 < i + (x :: t).length := by
      intro st hst hp
      have := runB_in t (i + 1) st hst (by omega) p hp
      rw [List.length_cons]
      omega
    have hst1 : ∀ x ∈ st, 0 ≤ x.2 ∧ x.2 < i + 1 := fun x hx => by have := hst x hx; omega
    rw [runB] at hp
    split at hp
    · split at hp
      · split at hp
        · cases hp
        · refine up _ (fun y hy => ?_) hp
          rcases List.mem_cons.mp hy with hy | hy
          · rw [hy]; simp only; omega
          · exact hst1 y hy
      · split at hp
        · exact up _ hst1 hp
        · rename_i a st' hq
          obtain ⟨⟨y, hy, e⟩, h2, h3⟩ := popB_in _ _ _ _ hq
          rcases List.mem_cons.mp hp with hp | hp
          · have := hst y hy
            rw [hp, List.length_cons]
            simp only
            omega
          · exact up _ (fun z hz => hst1 z (h2 z hz)) hp
    · exact up _ hst1 hp
theorem setAll_at : ∀ (ps : List (Int × Int)) (cl : List Int) (n : Nat), n < cl.length → (∀ p ∈ ps, 0 ≤ p.1) → (setAll cl ps).getD n 0 = cl.getD n 0 ∨ ∃ p ∈ ps, p.1 = (n : Int) ∧ p.2 = (setAll cl ps).getD n 0
  | [], _, _, _, _ => .inl rfl
  | p :: ps, cl, n, hn, hp => by
    rw [setAll_cons]
    have h0 := hp p (List.mem_cons_self ..)
    rcases setAll_at ps (cl.set p.1.toNat p.2) n (by rw [List.length_set]; exact hn) (fun q hq => hp q (List.mem_cons_of_mem _ hq)) with h | ⟨q, hq, h1, h2⟩
    · by_cases e : p.1 = (n : Int)
      · refine .inr ⟨p, List.mem_cons_self .., e, ?_⟩
        rw [h, show p.1.toNat = n by omega, List.getD_eq_getElem?_getD, List.getElem?_set_self hn]
        rfl
      · refine .inl ?_
        rw [h, List.getD_eq_getElem?_getD, List.getElem?_set_ne (by omega), ← List.getD_eq_getElem?_getD]
    · exact .inr ⟨q, List.mem_cons_of_mem _ hq, h1, h2⟩
theorem outB_in : ∀ (cl : List Int) (i : Int) (p : Int × Int), p ∈ outB i cl → p.2 > 0 ∧ ∃ n : Nat, n < cl.length ∧ p.1 = i + n ∧ p.2 = cl.getD n 0
  | [], _, _, h => by cases h
  | c :: t, i, p, h => by
    have next : p ∈ outB (i + 1) t → p.2 > 0 ∧ ∃ n : Nat, n < (c :: t).length ∧ p.1 = i + n ∧ p.2 = (c :: t).getD n 0 := by
      intro h
      obtain ⟨h1, n, h2, h3, h4⟩ := outB_in t (i + 1) p h
      exact ⟨h1, n + 1, by rw [List.length_cons]; omega, by rw [h3]; omega, by rw [h4]; rfl⟩
    rw [outB] at h
    split at h
    · rename_i hc
      rcases List.mem_cons.mp h with h | h
      · subst h
        exact ⟨hc, 0, by simp, by simp, rfl⟩
      · exact next h
    · exact next h
theorem brackets_in (l now : List Int) : ∀ p ∈ bracketsS l now, 0 ≤ p.1 ∧ p.1 < p.2 ∧ p.2 < l.length := by
  intro p hp
  have hr := runB_in (l.zip now) 0 [] (fun x hx => by cases hx) (Int.le_refl _)
  obtain ⟨h1, n, h2, h3, h4⟩ := outB_in _ _ _ hp
  rw [setAll_len, List.length_replicate] at h2
  have hz : (List.replicate l.length (0 : Int)).getD n 0 = 0 := by
    rw [List.getD_eq_getElem?_getD, List.getElem?_replicate]
    split <;> rfl
  rcases setAll_at (runB 0 (l.zip now) []) (List.replicate l.length 0) n (by rw [List.length_replicate]; exact h2) (fun q hq => (hr q hq).1) with h | ⟨q, hq, e1, e2⟩
  · rw [h, hz] at h4
    omega
  · have := hr q hq
    rw [List.length_zip] at this
    rw [← e2] at h4
    omega

/-! ### the rule -/
def stepP (first : List Int) (mine other sos : Int) (out : List Int) (p : Int × Int) : List Int :=
  if amongS ((out.take p.2.toNat).drop (p.1.toNat + 1)) mine = true then setS (setS out first p.1.toNat mine) first p.2.toNat mine
  else if amongS ((out.take p.2.toNat).drop (p.1.toNat + 1)) other = true then
    (if aheadR sos (out.take p.1.toNat).reverse = other then setS (setS out first p.1.toNat other) first p.2.toNat other
     else setS (setS out first p.1.toNat mine) first p.2.toNat mine)
  else out
def pairsS (l first now : List Int) (level sos : Int) : List Int :=
  (bracketsS l now).foldl (stepP first (if level % 2 = 1 then 2 else 1) (if level % 2 = 1 then 1 else 2) sos) now
theorem stepP_len (first : List Int) (mine other sos : Int) (out : List Int) (p : Int × Int) (h0 : 0 ≤ p.1) (h1 : p.1 < p.2) (h2 : p.2 < out.length) : (stepP first mine other sos out p).length = out.length := by
  have two : ∀ s, (setS (setS out first p.1.toNat s) first p.2.toNat s).length = out.length := by
    intro s
    have := setS_len out first p.1.toNat s (by omega)
    rw [setS_len _ _ _ _ (by omega), this]
  unfold stepP
  repeat' split
  all_goals first | exact two _ | rfl

theorem rPairs_loop (N : Nat) (first : List Int) (sos mine other : Int) (ps : List (Int × Int)) (n : Nat) (hn : n ≤ 400000000) (hnN : n < N) (hf : first.length = n) (hps : ∀ p ∈ ps, 0 ≤ p.1 ∧ p.1 < p.2 ∧ p.2 < n) (hpl : ps.length ≤ 400000000) :
    ∀ (k i : Nat) (out : List Int), ps.length - i < k → i ≤ ps.length → out.length = n → rPairs_L1 N first sos mine other ps k out (i : Int) = some ((ps.drop i).foldl (stepP first mine other sos) out)
  | 0, _, _, h, _, _ => absurd h (Nat.not_lt_zero _)
  | k + 1, i, out, hk, hi, ho => by
    unfold rPairs_L1
    by_cases h : i < ps.length
    · have hp := hps ps[i] (List.getElem_mem h)
      have ih := fun out => rPairs_loop N first sos mine other ps n hn hnN hf hps hpl k (i + 1) out (by omega) (by omega)
      rw [if_pos (by omega), ixge h, Option.bind_some, drop_g h, List.foldl_cons, wne i (by omega)]
      have hsl := stepP_len first mine other sos out ps[i] hp.1 hp.2.1 (by omega)
      generalize ps[i] = p at *
      obtain ⟨a, ha⟩ : ∃ a : Nat, p.1 = (a : Int) := ⟨p.1.toNat, by omega⟩
      obtain ⟨b, hb⟩ : ∃ b : Nat, p.2 = (b : Int) := ⟨p.2.toNat, by omega⟩
      have hcut : cutx out (IntKind.i64.wrap (p.1 + 1)) p.2 = some ((out.take b).drop (a + 1)) := by
        rw [ha, hb, wne a (by omega)]
        unfold cutx
        rw [if_pos (by omega)]
        simp
      have hcut2 : cutx out (0 : Int) p.1 = some (out.take a) := by
        rw [ha]
        unfold cutx
        rw [if_pos (by omega)]
        simp
      have hset : ∀ s, rSet N out first p.1 s = some (setS out first a s) := fun s => by rw [ha]; exact rSet_eq N out first a s (by omega) (by omega) (by omega) (by omega)
      have hl1 : ∀ s, (setS out first a s).length = n := fun s => by rw [setS_len _ _ _ _ (by omega)]; exact ho
      have hset2 : ∀ s, rSet N (setS out first a s) first p.2 s = some (setS (setS out first a s) first b s) := fun s => by rw [hb]; exact rSet_eq N _ first b s (by rw [hl1]; omega) (by rw [hl1]; omega) (by rw [hl1]; omega) (by rw [hl1]; omega)
      have hm : ((out.take b).drop (a + 1)).length ≤ n := by simp; omega
      have hm2 : (out.take a).length ≤ n := by simp; omega
      have e : stepP first mine other sos out p = (if amongS ((out.take b).drop (a + 1)) mine = true then setS (setS out first a mine) first b mine
          else if amongS ((out.take b).drop (a + 1)) other = true then (if aheadR sos (out.take a).reverse = other then setS (setS out first a other) first b other else setS (setS out first a mine) first b mine) else out) := by
        unfold stepP
        rw [ha, hb, Int.toNat_natCast, Int.toNat_natCast]
      rw [e] at hsl ⊢
      rw [hcut, Option.bind_some, rAmong_eq N _ mine (by omega) (by omega), Option.bind_some]
      cases q1 : amongS ((out.take b).drop (a + 1)) mine with
      | true =>
        simp only [q1, if_true] at hsl ⊢
        rw [hset, Option.bind_some, hset2, Option.bind_some]
        exact ih _ (hsl.trans ho)
      | false =>
        simp only [q1, Bool.false_eq_true, if_false] at hsl ⊢
        rw [rAmong_eq N _ other (by omega) (by omega), Option.bind_some]
        cases q2 : amongS ((out.take b).drop (a + 1)) other with
        | true =>
          simp only [q2, if_true] at hsl ⊢
          rw [hcut2, Option.bind_some, rAhead_eq N _ sos (by omega) (by omega), Option.bind_some]
          by_cases q3 : aheadR sos (out.take a).reverse = other
          · simp only [if_pos q3] at hsl ⊢
            rw [hset, Option.bind_some, hset2, Option.bind_some]
            exact ih _ (hsl.trans ho)
          · simp only [if_neg q3] at hsl ⊢
            rw [hset, Option.bind_some, hset2, Option.bind_some]
            exact ih _ (hsl.trans ho)
        | false =>
          simp only [q2, Bool.false_eq_true, if_false]
          exact ih _ ho
    · rw [if_neg (by omega), List.drop_eq_nil_of_le (by omega)]
      rfl

theorem outB_len : ∀ (cl : List Int) (i : Int), (outB i cl).length ≤ cl.length
  | [], _ => Nat.le_refl _
  | c :: t, i => by
    have := outB_len t (i + 1)
    rw [outB]
    split
    · rw [List.length_cons, List.length_cons]; omega
    · rw [List.length_cons]; omega
theorem brackets_len (l now : List Int) : (bracketsS l now).length ≤ l.length := by
  have := outB_len (setAll (List.replicate l.length 0) (runB 0 (l.zip now) [])) 0
  rw [setAll_len, List.length_replicate] at this
  exact this

/-- what is told beside an error, and the rest -/
def pairsA (l first now : List Int) (level sos : Int) : List Int × Int :=
  if l.length > 65536 then ([], 3) else if first.length ≠ l.length ∨ now.length ≠ l.length then ([], 2) else (pairsS l first now level sos, 0)
theorem rPairs_eq (N : Nat) (hN : 70000 ≤ N) (l first now : List Int) (level sos : Int) (hv : 0 ≤ level) : rPairs N l first now level sos = some (pairsA l first now level sos) := by
  unfold rPairs pairsA
  by_cases h : l.length > 65536
  · rw [if_pos (by omega), if_pos h]
  rw [if_neg (by omega), if_neg h]
  by_cases h1 : first.length = l.length
  · rw [if_neg (by omega)]
    by_cases h2 : now.length = l.length
    · rw [if_neg (by omega), if_neg (show ¬ (first.length ≠ l.length ∨ now.length ≠ l.length) by omega)]
      have hb := brackets_len l now
      have h0 := rPairs_loop N first sos (if level % 2 = 1 then 2 else 1) (if level % 2 = 1 then 1 else 2) (bracketsS l now) l.length (by omega) (by omega) h1 (brackets_in l now) (by omega) N 0 now (by omega) (Nat.zero_le _) h2
      rw [List.drop_zero, show ((0 : Nat) : Int) = 0 from rfl] at h0
      simp only [Option.bind_some]
      rw [show apx [] now = some now by unfold apx; rw [if_pos (by simp; omega)]; rfl, Option.bind_some, Int.tmod_eq_emod_of_nonneg hv]
      unfold pairsS
      by_cases hm : level % 2 = 1
      · simp only [if_pos hm] at h0 ⊢
        rw [Option.bind_some]
        simp only
        rw [rPrs_eq N (by omega) l now (by omega) (by omega), Option.bind_some, h0]
        rfl
      · simp only [if_neg hm] at h0 ⊢
        rw [Option.bind_some]
        simp only
        rw [rPrs_eq N (by omega) l now (by omega) (by omega), Option.bind_some, h0]
        rfl
    · rw [if_pos (by omega), if_pos (show first.length ≠ l.length ∨ now.length ≠ l.length from .inr h2)]
      rfl
  · rw [if_pos (by omega), if_pos (show first.length ≠ l.length ∨ now.length ≠ l.length from .inl h1)]
    rfl
end Go.Proofs.YtdfgecndbfmgnaaDoor
