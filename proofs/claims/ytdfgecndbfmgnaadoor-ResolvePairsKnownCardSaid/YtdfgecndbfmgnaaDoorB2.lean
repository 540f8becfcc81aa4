/-
  The document's pairs of brackets, by lists: the loops.
-/
import Derived.Test.YtdfgecndbfmgnaaDoorB1
namespace Go.Proofs.YtdfgecndbfmgnaaDoor
open Go Go.RowKit
set_option linter.unusedVariables false
set_option linter.unusedSectionVars false
set_option linter.unusedSimpArgs false

theorem setAll_len : ∀ (ps : List (Int × Int)) (cl : List Int), (setAll cl ps).length = cl.length
  | [], _ => rfl
  | p :: ps, cl => by
    show (setAll (cl.set p.1.toNat p.2) ps).length = _
    rw [setAll_len ps, List.length_set]
theorem setAll_cons (cl : List Int) (p : Int × Int) (ps : List (Int × Int)) : setAll cl (p :: ps) = setAll (cl.set p.1.toNat p.2) ps := rfl
theorem zip_drop {p0 p1 : List Int} {i : Nat} (h0 : i < p0.length) (h1 : i < p1.length) : (p0.zip p1).drop i = (p0.getD i 0, p1.getD i 0) :: (p0.zip p1).drop (i + 1) := by
  rw [List.drop_eq_getElem_cons (by simp; omega), List.getElem_zip, List.getD_eq_getElem?_getD, List.getElem?_eq_getElem h0, List.getD_eq_getElem?_getD, List.getElem?_eq_getElem h1]
  rfl

theorem rPrs_loop (N : Nat) (hN : 1000 ≤ N) (p0 p1 : List Int) (hp : p0.length ≤ 400000000) : ∀ (k i : Nat) (cl : List Int) (st : List (Int × Int)), p0.length - i < k → i ≤ p0.length → cl.length = p0.length → st.length ≤ 63 → (∀ x ∈ st, 0 ≤ x.2 ∧ x.2 < cl.length) →
    rPrs_L1 N p0 p1 k cl st (i : Int) = some (setAll cl (runB (i : Int) ((p0.zip p1).drop i) st.reverse))
  | 0, _, _, _, h, _, _, _, _ => absurd h (Nat.not_lt_zero _)
  | k + 1, i, cl, st, hk, hi, hcl, hs63, hst => by
    unfold rPrs_L1
    by_cases h0 : i < p0.length
    · by_cases h1 : i < p1.length
      · have ih := fun cl st => rPrs_loop N hN p0 p1 hp k (i + 1) cl st (by omega) (by omega)
        rw [if_pos (by omega), if_pos (by omega), ixe h0, Option.bind_some, rBr_eq N (by omega), Option.bind_some, ixe h1, wne i (by omega), zip_drop h0 h1, runB]
        simp only [Option.bind_some]
        have ei : (i : Int) + 1 = ((i + 1 : Nat) : Int) := by omega
        rw [ei]
        generalize p0.getD i 0 = r
        generalize p1.getD i 0 = c
        obtain ⟨x, b1, b2⟩ := brS r
        cases b2 with
        | false =>
          simp only [Bool.false_eq_true, false_and, if_false]
          exact ih cl st hcl hs63 hst
        | true =>
          simp only [true_and]
          by_cases hc : c = 14
          · rw [if_neg (fun z => z hc), if_pos hc]
            cases b1 with
            | true =>
              simp only [if_true]
              rw [List.length_reverse]
              by_cases h63 : st.length = 63
              · rw [if_pos (by omega), if_pos h63]
                rfl
              · rw [if_neg (by omega), if_neg h63, apg_to _ _ (by simp; omega), Option.bind_some, ih cl (st ++ [(x, (i : Int))]) hcl (by simp; omega) ?_]
                · rw [List.reverse_append]
                  rfl
                · intro y hy
                  rcases List.mem_append.mp hy with hy | hy
                  · exact hst y hy
                  · rw [List.mem_singleton.mp hy]
                    simp only
                    omega
            | false =>
              simp only [Bool.false_eq_true, if_false]
              have h2 := rPop_loop N (i : Int) x cl st hst (by omega) N st.length (by omega) (Nat.le_refl _)
              rw [List.take_length] at h2
              rw [w64e (by omega) (by omega), h2, Option.bind_some]
              cases hq : popB x st.reverse with
              | none =>
                simp only
                exact ih cl st hcl hs63 hst
              | some q =>
                obtain ⟨a, st'⟩ := q
                obtain ⟨q1, q2, q3⟩ := popB_in _ _ _ _ hq
                simp only
                rw [setAll_cons, ih (cl.set a.toNat (i : Int)) st'.reverse (by rw [List.length_set]; exact hcl) (by rw [List.length_reverse]; rw [List.length_reverse] at q3; omega) ?_, List.reverse_reverse]
                intro y hy
                rw [List.length_set]
                exact hst y (List.mem_reverse.mp (q2 y (List.mem_reverse.mp hy)))
          · rw [if_pos hc, if_neg hc]
            exact ih cl st hcl hs63 hst
      · rw [if_pos (by omega), if_neg (by omega), List.drop_eq_nil_of_le (by simp; omega)]
        rfl
    · rw [if_neg (by omega), List.drop_eq_nil_of_le (by simp; omega)]
      rfl

theorem rOut_loop (N : Nat) (p0 cl : List Int) (hp : p0.length ≤ 400000000) (hcl : cl.length = p0.length) : ∀ (k i : Nat) (a : List (Int × Int)), p0.length - i < k → i ≤ p0.length → a.length ≤ i →
    rPrs_L3 N p0 cl k a (i : Int) = some (a ++ outB (i : Int) (cl.drop i))
  | 0, _, _, h, _, _ => absurd h (Nat.not_lt_zero _)
  | k + 1, i, a, hk, hi, ha => by
    unfold rPrs_L3
    by_cases h : i < p0.length
    · have ih := fun a => rOut_loop N p0 cl hp hcl k (i + 1) a (by omega) (by omega)
      have hc : i < cl.length := by omega
      rw [if_pos (by omega), ixe hc, Option.bind_some, drop_e hc, outB, wne i (by omega), show (i : Int) + 1 = ((i + 1 : Nat) : Int) by omega]
      generalize cl.getD i 0 = c
      by_cases hz : c > 0
      · rw [if_pos hz, if_pos hz, Option.bind_some, apg_to _ _ (by simp; omega), Option.bind_some, ih _ (by simp; omega), List.append_assoc]
        rfl
      · rw [if_neg hz, if_neg hz, ih _ (by omega)]
    · rw [if_neg (by omega), List.drop_eq_nil_of_le (by omega), outB, List.append_nil]

theorem rPrs_eq (N : Nat) (hN : 1000 ≤ N) (l now : List Int) (hl : l.length ≤ 400000000) (hlN : l.length < N) : rPrs N l now = some (bracketsS l now) := by
  unfold rPrs
  rw [mkx_nat _ (by omega), Option.bind_some]
  have h1 := rPrs_loop N hN l now hl N 0 (List.replicate l.length 0) [] (by omega) (Nat.zero_le _) (List.length_replicate ..) (by decide) (fun x hx => by cases hx)
  rw [List.drop_zero, show ((0 : Nat) : Int) = 0 from rfl, List.reverse_nil] at h1
  rw [h1, Option.bind_some]
  have h2 := rOut_loop N l (setAll (List.replicate l.length 0) (runB 0 (l.zip now) [])) hl (by rw [setAll_len, List.length_replicate]) N 0 [] (by omega) (Nat.zero_le _) (Nat.le_refl _)
  rw [List.drop_zero, show ((0 : Nat) : Int) = 0 from rfl, List.nil_append] at h2
  rw [h2]
  rfl
end Go.Proofs.YtdfgecndbfmgnaaDoor
