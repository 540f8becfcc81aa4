/-
  One feature of the document, by lists.
-/
import Derived.Test.YtcleaepcjbfmhaaLy
namespace Go.Proofs.Ytcleaepcjbfmhaa
open Go Go.RowKit
set_option linter.unusedVariables false
set_option linter.unusedSectionVars false
set_option linter.unusedSimpArgs false

theorem wds_at (b : List Int) (p : Int) (n j : Nat) (h : j < n) : (wds b p n).drop j = wdv b (p + 2 * (j : Nat)) :: (wds b p n).drop (j + 1) := by
  have hl : j < (wds b p n).length := by rw [wds_len]; exact h
  rw [List.drop_eq_getElem_cons hl]
  congr 1
  have e : (wds b p n)[j]? = some (wdv b (p + 2 * (j : Nat))) := by
    unfold wds
    rw [List.getElem?_map, List.getElem?_range h]
    rfl
  rw [List.getElem?_eq_getElem hl] at e
  exact Option.some.inj e

section
variable (N : Nat) (b : List Int) (p1 x125 t p2 : Int) (K : Nat) (hU : U8 b) (hb : b.length ≤ 1000000) (hN : 1000000 < N) (hT : IntKind.i64.wrap (p1 + x125) = t) (ht : 0 ≤ t ∧ t ≤ 1000000) (hK : K ≤ 65535) (hw : hasB b (t + 4) (K : Int) 2 = true)
include hU hb hN hT ht hK hw

theorem read_at (j : Nat) (hj : j < K) : rW N b (IntKind.i64.wrap ((IntKind.i64.wrap ((IntKind.i64.wrap (p1 + x125)) + 4)) + (IntKind.i64.wrap ((2 : Int) * (j : Int))))) = some (wdv b (t + 4 + 2 * (j : Nat))) := by
  have hw' : 0 ≤ t + 4 ∧ (0 : Int) ≤ K ∧ t + 4 + 2 * (K : Int) ≤ (b.length : Int) := of_decide_eq_true hw
  rw [hT, zw64 (x := t + 4) (by omega) (by omega), zw64 (x := (2 : Int) * (j : Int)) (by omega) (by omega), zw64 (by omega) (by omega), num2_eq N b _ hU (by omega) (by omega)]
  unfold rdv
  have : hasB b (t + 4 + 2 * (j : Int)) 1 2 = true := by unfold hasB; exact decide_eq_true (by omega)
  rw [this, if_pos rfl]

theorem doc_L3 (v : Int) : ∀ (k j : Nat) (acc : Bool), K - j < k → j ≤ K → rFeats_L3 N b p1 x125 (K : Int) v k acc (j : Int) = some (acc || ((wds b (t + 4) K).drop j).contains v)
  | 0, _, _, h, _ => absurd h (Nat.not_lt_zero _)
  | k + 1, j, acc, hk, hj => by
    unfold rFeats_L3
    by_cases h : j < K
    · rw [if_pos (by omega), wds_at b (t + 4) K j h, zwp j (by omega)]
      cases acc with
      | true =>
        simp only
        rw [doc_L3 v k (j + 1) true (by omega) (by omega)]
        simp
      | false =>
        simp only
        rw [read_at N b p1 x125 t K hU hb hN hT ht hK hw j h, Option.bind_some]
        by_cases he : wdv b (t + 4 + 2 * (j : Nat)) = v
        · rw [if_pos he, doc_L3 v k (j + 1) true (by omega) (by omega), List.contains_cons]
          simp [he]
        · rw [if_neg he, doc_L3 v k (j + 1) false (by omega) (by omega), List.contains_cons]
          have : (v == wdv b (t + 4 + 2 * (j : Nat))) = false := by simpa using fun e => he e.symm
          simp only [this, Bool.false_or]
    · rw [if_neg (by omega), List.drop_eq_nil_of_le (by rw [wds_len]; omega)]
      simp
theorem doc_L4 : ∀ (k j : Nat), K - j < k → j ≤ K → rFeats_L4 N b p1 p2 x125 (K : Int) k (j : Int) = some (if ((wds b (t + 4) K).drop j).all (fun x => decide (x < p2)) = true then Ctl.go () else Ctl.ret ([], 50))
  | 0, _, h, _ => absurd h (Nat.not_lt_zero _)
  | k + 1, j, hk, hj => by
    unfold rFeats_L4
    by_cases h : j < K
    · rw [if_pos (by omega), wds_at b (t + 4) K j h, zwp j (by omega), read_at N b p1 x125 t K hU hb hN hT ht hK hw j h, Option.bind_some, List.all_cons]
      by_cases he : wdv b (t + 4 + 2 * (j : Nat)) ≥ p2
      · rw [if_pos he, if_neg (by rw [decide_eq_false (by omega)]; simp)]
      · rw [if_neg he, doc_L4 k (j + 1) (by omega) (by omega), decide_eq_true (by omega : wdv b (t + 4 + 2 * (j : Nat)) < p2), Bool.true_and]
    · rw [if_neg (by omega), List.drop_eq_nil_of_le (by rw [wds_len]; omega)]
      rfl
/-- how far the document looks -/
def farM (K : Nat) (p2 : Int) : Nat := if 0 < K then (if p2 < 65536 then p2.toNat else 65536) else 0
theorem doc_L2 : ∀ (k v : Nat) (acc : List Int), 65536 - v < k → v ≤ farM K p2 → acc.length ≤ v →
    rFeats_L2 N b p1 p2 x125 (K : Int) k acc (v : Int) = some (acc ++ ((List.range' v (farM K p2 - v)).filter fun v => (wds b (t + 4) K).contains ((v : Nat) : Int)).map fun v => ((v : Nat) : Int))
  | 0, _, _, h, _, _ => absurd h (Nat.not_lt_zero _)
  | k + 1, v, acc, hk, hv, ha => by
    have hfar : farM K p2 ≤ 65536 := by unfold farM; split; split <;> omega; omega
    unfold rFeats_L2
    by_cases h : v < farM K p2
    · have hcond : v < 65536 ∧ 0 < K ∧ (v : Int) < p2 := by
        unfold farM at h
        split at h
        · split at h
          · omega
          · omega
        · omega
      rw [if_pos (by omega), if_pos (by omega), if_pos hcond.2.2]
      have e3 := doc_L3 N b p1 x125 t K hU hb hN hT ht hK hw (v : Int) N 0 false (by omega) (Nat.zero_le _)
      have e3' : rFeats_L3 N b p1 x125 (K : Int) (v : Int) N false 0 = _ := e3
      rw [e3', Option.bind_some, List.drop_zero, Bool.false_or, zwp v (by omega), show farM K p2 - v = (farM K p2 - (v + 1)) + 1 by omega, List.range'_succ]
      cases hc : (wds b (t + 4) K).contains ((v : Nat) : Int) with
      | true =>
        simp only
        rw [apx_eq (by show acc.length + 1 ≤ _; omega), Option.bind_some, Option.bind_some, doc_L2 k (v + 1) _ (by omega) (by omega) (by rw [List.length_append]; show acc.length + 1 ≤ _; omega), List.filter_cons_of_pos (by rw [hc]), List.map_cons, List.append_assoc]
        rfl
      | false =>
        simp only
        rw [Option.bind_some, doc_L2 k (v + 1) _ (by omega) (by omega) (by omega), List.filter_cons_of_neg (by rw [hc]; simp)]
    · rw [show farM K p2 - v = 0 by omega]
      have hcond : ¬ (v < 65536 ∧ 0 < K ∧ (v : Int) < p2) := by
        rintro ⟨c1, c2, c3⟩
        apply h
        unfold farM
        rw [if_pos c2]
        split <;> omega
      have hr : (acc ++ ((List.range' v 0).filter fun v => (wds b (t + 4) K).contains ((v : Nat) : Int)).map fun v => ((v : Nat) : Int)) = acc := by simp
      rw [hr]
      by_cases c1 : (v : Int) < 65536
      · rw [if_pos c1]
        by_cases c2 : (K : Int) > 0
        · rw [if_pos c2, if_neg (fun c3 => hcond ⟨by omega, by omega, c3⟩)]
        · rw [if_neg c2]
      · rw [if_neg c1]
end
end Go.Proofs.Ytcleaepcjbfmhaa
