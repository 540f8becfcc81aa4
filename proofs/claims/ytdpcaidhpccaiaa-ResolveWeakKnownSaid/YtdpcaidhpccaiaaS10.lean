/-
  ResolveEnds is true, by lists: THE STAGE'S THEOREM.
-/
import Derived.Test.YtdpcaidhpccaiaaS7
import Derived.Test.YtdpcaidhpccaiaaFEnds
namespace Go.Proofs.Ytdpcaidhpccaiaa
open Go Go.RowKit
set_option linter.unusedVariables false
set_option linter.unusedSectionVars false
set_option linter.unusedSimpArgs false

def clearC (c : Int) : Int := if c = 1 ∨ c = 2 ∨ c = 4 ∨ c = 7 ∨ c = 10 ∨ isNeu c = true then c else 14
theorem kCleared_loop (N : Nat) (p0 : List Int) (hp : p0.length ≤ 400000000) : ∀ (k i : Nat) (a : List Int), p0.length - i < k → i ≤ p0.length → a.length ≤ i →
    kCleared_L1 N p0 k a (i : Int) = some (a ++ (p0.drop i).map clearC)
  | 0, _, _, h, _, _ => absurd h (Nat.not_lt_zero _)
  | k + 1, i, a, hk, hi, ha => by
    unfold kCleared_L1
    by_cases h : i < p0.length
    · rw [if_pos (by omega), ixe h, Option.bind_some, drop_e h, wne i (by omega), List.map_cons]
      have ih := fun a => kCleared_loop N p0 hp k (i + 1) a (by omega) (by omega)
      generalize p0.getD i 0 = c
      have fin : ∀ v, clearC c = v → ((apx a [v]).bind fun l => kCleared_L1 N p0 k l ((i + 1 : Nat) : Int)) = some (a ++ clearC c :: (p0.drop (i + 1)).map clearC) := by
        intro v e
        rw [apx_to a _ (by simp; omega), Option.bind_some, ih _ (by simp; omega), List.append_assoc, e]
        rfl
      clear ih
      by_cases h1 : c = 1
      · have := fin c (by unfold clearC; rw [if_pos (by omega)])
        subst h1
        simpa using this
      by_cases h2 : c = 2
      · have := fin c (by unfold clearC; rw [if_pos (by omega)])
        subst h2
        simpa using this
      by_cases h3 : c = 4
      · have := fin c (by unfold clearC; rw [if_pos (by omega)])
        subst h3
        simpa using this
      by_cases h4 : c = 7
      · have := fin c (by unfold clearC; rw [if_pos (by omega)])
        subst h4
        simpa using this
      by_cases h5 : c = 10
      · have := fin c (by unfold clearC; rw [if_pos (by omega)])
        subst h5
        simpa using this
      cases h6 : isNeu c with
      | true =>
        have := fin c (by unfold clearC; rw [if_pos (by simp [h6])])
        simpa [h1, h2, h3, h4, h5, rNeu_eq, h6] using this
      | false =>
        have := fin 14 (by unfold clearC; rw [if_neg (by simp [h1, h2, h3, h4, h5, h6])])
        simpa [h1, h2, h3, h4, h5, rNeu_eq, h6] using this
    · rw [if_neg (by omega), List.drop_eq_nil_of_le (by omega)]
      simp
theorem kCleared_eq (N : Nat) (l : List Int) (hl : l.length ≤ 400000000) (hN : l.length < N) : kCleared N l = some (l.map clearC) := by
  unfold kCleared
  have h := kCleared_loop N l hl N 0 [] (by omega) (Nat.zero_le _) (Nat.le_refl _)
  rw [List.drop_zero, List.nil_append, show ((0 : Nat) : Int) = 0 from rfl] at h
  rw [h]
  rfl
/-- what Pairs may leave -/
def PairC (c : Int) : Prop := c = 1 ∨ c = 2 ∨ c = 4 ∨ c = 7 ∨ c = 10 ∨ isNeu c = true
theorem clearC_of (c : Int) : PairC (clearC c) := by
  unfold clearC
  split
  · assumption
  · exact .inr (.inr (.inr (.inr (.inr rfl))))

theorem lvlC_of {v x : Int} (h0 : 0 ≤ v) (h1 : v ≤ 250) (hx : x = 1 ∨ x = 2 ∨ x = 4 ∨ x = 7) : v ≤ lvlC v x ∧ lvlC v x ≤ v + 2 ∧ (lvlC v x % 2 = 1 ↔ x = 2) := by
  unfold lvlC
  rw [w8e (show 0 ≤ v + 1 by omega) (by omega), w8e (show 0 ≤ v + 2 by omega) (by omega)]
  repeat' split
  all_goals omega

theorem dirN_side {side a b : Int} (h : dirN side a b ≠ side) : dirN side a b = a ∧ a ≠ 0 := by
  unfold dirN at h ⊢
  split
  · rename_i q
    exact ⟨rfl, q.2⟩
  · rename_i q
    rw [if_neg q] at h
    exact absurd rfl h

theorem fEnds_loop (N : Nat) (v side eos : Int) (h0 : 0 ≤ v) (h250 : v ≤ 250) (hside : side = 1 ∨ side = 2) (cl r nn : List Int) (hp : cl.length ≤ 3000) (hr : r.length = cl.length) (hn : nn = r.map (lvlC v)) (hcl : ∀ x ∈ cl, PairC x) :
    ∀ (k i : Nat) (a bef : Int), cl.length - i < k → i ≤ cl.length → (a = 0 ∨ a = 1 ∨ a = 2) → (bef = 0 ∨ bef = 1 ∨ bef = 2) → (bef ≠ 0 → (a ≠ 0 → (bef = 1 ↔ a = 1)) ∨ dirN side a (behindN eos (noBN (cl.drop i))) = side) →
      r.drop i = mergeB (cl.drop i) (nS side eos a (noBN (cl.drop i))) → fEnds_L1 N v cl r nn side k bef (i : Int) = some (Ctl.go ())
  | 0, _, _, _, h, _, _, _, _, _ => absurd h (Nat.not_lt_zero _)
  | k + 1, i, a, bef, hk, hi, ha, hb, hj, hd => by
    unfold fEnds_L1
    by_cases hlt : i < cl.length
    · have hlr : i < r.length := by omega
      have hc := hcl (cl.getD i 0) (by rw [List.getD_eq_getElem?_getD, List.getElem?_eq_getElem hlt]; exact List.getElem_mem hlt)
      have e3 : ix nn (i : Int) = some (lvlC v (r.getD i 0)) := by
        subst hn
        rw [ixe (by simpa using hlr), List.getD_eq_getElem?_getD, List.getElem?_map, List.getD_eq_getElem?_getD, List.getElem?_eq_getElem hlr]
        rfl
      have e1 := ixe hlt
      have e2 := ixe hlr
      rw [drop_e hlt, drop_e hlr] at hd
      rw [drop_e hlt] at hj
      have ih := fun a bef => fEnds_loop N v side eos h0 h250 hside cl r nn hp hr hn hcl k (i + 1) a bef (by omega) (by omega)
      rw [if_pos (by omega), wne i (by omega)]
      generalize cl.getD i 0 = c at *
      generalize r.getD i 0 = x at *
      by_cases h10 : c = 10
      · subst h10
        rw [mergeB_bn] at hd
        obtain ⟨hx, hd2⟩ := List.cons.inj hd
        subst hx
        have hb10 : noBN (10 :: cl.drop (i + 1)) = noBN (cl.drop (i + 1)) := rfl
        rw [hb10] at hd2 hj
        have h := ih a bef ha hb hj hd2
        simpa [e1, e2] using h
      · have hne : noBN (c :: cl.drop (i + 1)) = c :: noBN (cl.drop (i + 1)) := by unfold noBN; rw [List.filter_cons, if_pos (by simpa using h10)]
        rw [hne] at hd hj
        rw [nS] at hd
        rw [behindN] at hj
        cases hnu : isNeu c with
        | true =>
          rw [hnu, if_pos rfl, mergeB_no h10] at hd
          rw [hnu, if_pos rfl] at hj
          obtain ⟨hx, hd2⟩ := List.cons.inj hd
          have hxv := dirN_any (b := behindN eos (noBN (cl.drop (i + 1)))) hside ha
          have hsd := dirN_side (side := side) (a := a) (b := behindN eos (noBN (cl.drop (i + 1))))
          rw [← hx] at hxv hsd hj
          have hl := lvlC_of h0 h250 (x := x) (by omega)
          have h := ih a (if x = 1 then 1 else 2) ha (by split <;> omega) (by
            intro _
            rw [← hx]
            by_cases q : x = side
            · exact .inr q
            · have := hsd q
              refine .inl (fun _ => ?_)
              split <;> omega) hd2
          have hw : IntKind.u8.wrap (v + 2) = v + 2 := w8e (by omega) (by omega)
          have l1 : ¬ lvlC v x < v := by omega
          have l2 : ¬ lvlC v x > v + 2 := by omega
          have l3 : (lvlC v x).tmod 2 = 1 ↔ x = 2 := by rw [Int.tmod_eq_emod_of_nonneg (by omega)]; exact hl.2.2
          have hbad : x ≠ side → bef ≠ 0 → (bef = 1 ↔ x = 1) := by
            intro q1 q2
            have := hsd q1
            have := hj q2
            omega
          clear hj hsd ih hd hd2 hc
          generalize lvlC v x = n at *
          have l3b : (n.tmod 2 = 1) = (x = 2) := propext l3
          have l1b : (n < v) = False := eq_false l1
          have l2b : (n > v + 2) = False := eq_false l2
          by_cases x2 : x = 2
          · subst x2
            clear l1 l2 l3
            rcases hside with s1 | s1 <;> subst s1
            · rcases hb with q0 | q0 | q0 <;> subst q0
              · by_cases q : 0 < i <;> simpa [e1, e2, e3, rNeu_eq, hnu, l1b, l2b, l3b, hw, q] using h
              · exact absurd ((hbad (by decide) (by decide)).mp rfl) (by decide)
              · by_cases q : 0 < i <;> simpa [e1, e2, e3, rNeu_eq, hnu, l1b, l2b, l3b, hw, q] using h
            · rcases hb with q0 | q0 | q0 <;> subst q0 <;> by_cases q : 0 < i <;> simpa [e1, e2, e3, rNeu_eq, hnu, l1b, l2b, l3b, hw, q] using h
          · have x1 : x = 1 := by omega
            subst x1
            clear l1 l2 l3
            rcases hside with s1 | s1 <;> subst s1
            · rcases hb with q0 | q0 | q0 <;> subst q0 <;> by_cases q : 0 < i <;> simpa [e1, e2, e3, rNeu_eq, hnu, l1b, l2b, l3b, hw, q] using h
            · rcases hb with q0 | q0 | q0 <;> subst q0
              · by_cases q : 0 < i <;> simpa [e1, e2, e3, rNeu_eq, hnu, l1b, l2b, l3b, hw, q] using h
              · by_cases q : 0 < i <;> simpa [e1, e2, e3, rNeu_eq, hnu, l1b, l2b, l3b, hw, q] using h
              · exact absurd ((hbad (by decide) (by decide)).mpr rfl) (by decide)
        | false =>
          rw [hnu, if_neg (by decide), mergeB_no h10] at hd
          obtain ⟨hx, hd2⟩ := List.cons.inj hd
          subst hx
          have hl := lvlC_of h0 h250 (x := x) (by unfold PairC at hc; rw [hnu] at hc; simp only [Bool.false_eq_true, or_false] at hc; omega)
          have h := ih (dirC x) (if x = 1 then 1 else 2) (dirC_any x) (by split <;> omega) (by
            intro _
            refine .inl (fun hz => ?_)
            unfold dirC at hz ⊢
            repeat' split
            all_goals omega) hd2
          have hw : IntKind.u8.wrap (v + 2) = v + 2 := w8e (by omega) (by omega)
          have l1 : ¬ lvlC v x < v := by omega
          have l2 : ¬ lvlC v x > v + 2 := by omega
          have l3 : (lvlC v x).tmod 2 = 1 ↔ x = 2 := by rw [Int.tmod_eq_emod_of_nonneg (by omega)]; exact hl.2.2
          have hc2 : x = 1 ∨ x = 2 ∨ x = 4 ∨ x = 7 := by unfold PairC at hc; rw [hnu] at hc; simp only [Bool.false_eq_true, or_false] at hc; omega
          clear hj ih hd hd2 hc hl
          generalize lvlC v x = n at *
          have l3b : (n.tmod 2 = 1) = (x = 2) := propext l3
          have l1b : (n < v) = False := eq_false l1
          have l2b : (n > v + 2) = False := eq_false l2
          clear l1 l2 l3
          rcases hc2 with q | q | q | q <;> subst q <;> simpa [e1, e2, e3, rNeu_eq, hnu, l1b, l2b, l3b, hw] using h
    · rw [if_neg (by omega)]

theorem fEnds_N (N : Nat) (hN : 10000 ≤ N) (l : List Int) (v s e : Int) (hv : 0 ≤ v) : fEnds N l v s e = some true := by
  unfold fEnds
  by_cases h : 3000 < l.length
  · rw [if_pos (by omega), kWorks_eq N (by omega)]
    rfl
  rw [if_neg (by omega)]
  by_cases h2 : 250 < v
  · rw [if_pos (by omega), kWorks_eq N (by omega)]
    rfl
  rw [if_neg (by omega)]
  simp only [Option.bind_some]
  have hc : (l.map clearC).length = l.length := List.length_map ..
  have hl := neutralS_len (l.map clearC) v s e
  rw [kCleared_eq N l (by omega) (by omega), Option.bind_some, pNeutral_eq N _ v s e hv (by omega) (by omega), Option.bind_some, pLvl_eq N _ v hv (by omega) (by omega) (by omega), Option.bind_some, if_neg (by omega), if_neg (by rw [List.length_map]; omega)]
  simp only [Option.bind_some]
  have hs : (if v.tmod 2 = 1 then (some 2 : Option Int) else some 1) = some (sideL v) := by
    unfold sideL
    rw [Int.tmod_eq_emod_of_nonneg hv]
    split <;> rfl
  have hloop := fEnds_loop N v (sideL v) e hv (by omega) (sideL_any v) (l.map clearC) (neutralS (l.map clearC) v s e) _ (by omega) hl rfl (fun x hx => by
      obtain ⟨y, _, q⟩ := List.mem_map.mp hx
      rw [← q]
      exact clearC_of y) N 0 (sosS s) 0 (by omega) (Nat.zero_le _) (.inr (sosS_any s)) (.inl rfl) (fun q => absurd rfl q) (by rw [List.drop_zero, List.drop_zero]; rfl)
  rw [show ((0 : Nat) : Int) = 0 from rfl] at hloop
  rw [hs, Option.bind_some, hloop, Option.bind_some]
  simp only
  rw [kWorks_eq N (by omega)]
  rfl
theorem fEnds_true (l : List Int) (v s e : Int) (hv : 0 ≤ v) : ∃ N, fEnds N l v s e = some true := ⟨10000, fEnds_N 10000 (Nat.le_refl _) l v s e hv⟩
end Go.Proofs.Ytdpcaidhpccaiaa
