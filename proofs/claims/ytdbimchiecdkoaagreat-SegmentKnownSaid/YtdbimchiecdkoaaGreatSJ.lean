/-
  The document's breaks are those of the lists.
-/
import Derived.Test.YtdbimchiecdkoaaGreatSG
import Derived.Test.YtdbimchiecdkoaaGreatSP
import Derived.Test.YtdbimchiecdkoaaGreatSg1
namespace Go.Proofs.YtdbimchiecdkoaaGreat
open Go Go.RowKit Sg
set_option linter.unusedVariables false
set_option linter.unusedSimpArgs false
section
variable {N : Nat}
theorem rBetw_eq (hN : 2000 ≤ N) (v u : U) (L R : List U) (hl : (v :: L).length ≤ 1000) (i : Int) (hi : i = ((v :: L).length : Int)) : rBetw N ((v :: L).reverse ++ (u :: R)) i = some (betw (v :: L) (u :: R)) := by
  subst hi
  have hpos : 1 ≤ (v :: L).length := by simp
  obtain ⟨s1, s2⟩ := spk_drop (v :: L)
  generalize hLL : v :: L = X at *
  have w1 : IntKind.i64.wrap ((X.length : Int) - 1) = (X.length : Int) - 1 := w64s (by omega) (by omega)
  have w2 : IntKind.i64.wrap ((X.length : Int) - 2) = (X.length : Int) - 2 := w64s (by omega) (by omega)
  have w3 : IntKind.i64.wrap ((X.length : Int) + 1) = (X.length : Int) + 1 := w64s (by omega) (by omega)
  have w4 : IntKind.i64.wrap ((X.length : Int) + 2) = (X.length : Int) + 2 := w64s (by omega) (by omega)
  have hX0 : X[0]? = some v := by rw [← hLL]; rfl
  have hv : ixg (X.reverse ++ (u :: R)) ((X.length : Int) - 1) = some v := by
    have := at_left (L := X) (R := u :: R) 0 (by omega)
    rw [show (X.length : Int) - 1 = ((X.length - 1 - 0 : Nat) : Int) by omega]
    exact ixg_nat (this.trans hX0)
  have hu : ixg (X.reverse ++ (u :: R)) (X.length : Int) = some u := by
    have := at_right (L := X) (R := u :: R) 0
    rw [Nat.add_zero] at this
    exact ixg_nat this
  have wk : IntKind.i64.wrap (((spk X).length : Int) - 1 - 1) = ((spk X).length : Int) - 1 - 1 := w64s (by omega) (by omega)
  have hkx : (((spk X).length : Int) - 1 ≥ 0 ∧ ∃ w, ixg (X.reverse ++ (u :: R)) (((spk X).length : Int) - 1) = some w ∧ opn w.1 w.2.1 = opnL (spk X)) ∨ (¬ ((spk X).length : Int) - 1 ≥ 0 ∧ opnL (spk X) = false) := by
    cases hs : spk X with
    | nil => right; exact ⟨by simp, rfl⟩
    | cons w K =>
      left
      refine ⟨by simp, w, ?_, rfl⟩
      rw [← hs]
      have hlen : 1 ≤ (spk X).length := by rw [hs]; simp
      have := at_left (L := X) (R := u :: R) (X.length - (spk X).length) (by omega)
      rw [show ((spk X).length : Int) - 1 = ((X.length - 1 - (X.length - (spk X).length) : Nat) : Int) by omega]
      refine ixg_nat (this.trans ?_)
      rw [← List.head?_drop, ← s1, hs]; rfl
  have H := rBetw_core (N := N) (us := X.reverse ++ (u :: R)) (i := (X.length : Int)) (x40 := ((spk X).length : Int) - 1) (p := at0 X) (q := at0 (u :: R)) (o := at0 (X.drop 1)) (n := at0 (List.drop 1 (u :: R))) (m := at0 (List.drop 2 (u :: R))) (kc := at0 (spk X)) (j := at0 ((spk X).drop 1))
    (u := u) (v := v) (num1 := num X) (num2 := num (X.drop 1)) (od := oddR X) (ok := opnL (spk X)) (n1 := narrow X) (n2 := narrow (List.drop 1 (u :: R))) (n3 := narrow (u :: R)) (n4 := narrow (X.drop 1))
    (by omega) (by rw [w1]; exact rNum_eq (by omega) (by omega) 0 (by omega) _ (by omega)) (fun h => by rw [w2]; exact rNum_eq (by omega) (by omega) 1 (by omega) _ (by omega))
    (fun h => by rw [List.drop_eq_nil_of_le (by omega)]; rfl) (by rw [w1]; exact rOdd_eq (by omega) (by omega) _ rfl) hu (by rw [w1]; exact hv)
    (by rw [w1]; exact rAt_left 0 _ (by omega)) (rAt_right 0 _ (by omega)) (by rw [w2]; exact rAt_left 1 _ (by omega)) (by rw [w3]; exact rAt_right 1 _ (by omega)) (by rw [w4]; exact rAt_right 2 _ (by omega))
    (by rw [w1]; have := rK_eq (N := N) (R := u :: R) (L := X) (by omega) N 0 (by omega) (by omega); simpa using this)
    (by have := rAt_left (N := N) (R := u :: R) (L := X) (X.length - (spk X).length) (((spk X).length : Int) - 1) (by omega); rw [← s1] at this; exact this)
    (by rw [wk]; have := rAt_left (N := N) (R := u :: R) (L := X) (X.length - (spk X).length + 1) (((spk X).length : Int) - 1 - 1) (by omega); rw [← List.drop_drop, ← s1] at this; exact this)
    hkx (by rw [w1]; exact rNar_left 0 _ (by omega)) (by rw [w3]; exact rNar_right 1 _ (by omega)) (by have := rNar_right (N := N) (L := X) (R := u :: R) 0 (X.length : Int) (by omega); simpa using this) (by rw [w2]; exact rNar_left 1 _ (by omega))
  rw [H, ← hLL]
  rfl
theorem setg_last (pre : List U) (u u' : U) : setg (pre ++ [u]) (((pre ++ [u]).length : Int) - 1) u' = some (pre ++ [u']) := by
  unfold setg
  rw [if_pos ⟨by simp, by simp; omega⟩]
  congr 1
  have : ((((pre ++ [u]).length : Nat) : Int) - 1).toNat = pre.length := by simp
  rw [this]
  simp
theorem ixg_last (pre : List U) (u : U) : ixg (pre ++ [u]) (((pre ++ [u]).length : Int) - 1) = some u := by
  unfold ixg
  rw [if_pos (by simp)]
  have : ((((pre ++ [u]).length : Nat) : Int) - 1).toNat = pre.length := by simp
  rw [this]
  simp
theorem units_L1 (hN : 200 ≤ N) {l : List Int} (hl : l.length ≤ 100000) (hr : ∀ x ∈ l, i32b x = true) : ∀ (f i : Nat) (out : List U), l.length - i < f → i ≤ l.length → out.length ≤ i → (out = [] → i = 0) → (∀ (pre : List U) (u : U), out = pre ++ [u] → 0 ≤ u.2.2.1 ∧ u.2.2.1 ≤ (i : Int)) →
    rUnits_L1 N l f out (i : Int) = some (match out.reverse with | [] => uns breakC wdC (l.drop i) | u :: pre => pre.reverse ++ unF breakC wdC u (l.drop i))
  | 0, i, out, h, _, _, _, _ => by omega
  | f + 1, i, out, hf, hi, ho, h0, hu => by
    unfold rUnits_L1
    by_cases h : i < l.length
    · have hxi : l[i]? = some l[i] := List.getElem?_eq_getElem h
      have hx : ix l (i : Int) = some l[i] := ix_of (by omega) (by omega) (by simp [h])
      have hc := breakC_in l[i]
      have hrf : rfBk N l[i] = some (breakC l[i]) := by unfold rfBk; rw [if_pos (hr _ (List.getElem_mem h))]
      have hwd : rfWd N l[i] = some (wdC l[i]) := rfl
      have hw : IntKind.i64.wrap (breakC l[i]) = breakC l[i] := w64s (by omega) (by omega)
      have hi1 : IntKind.i64.wrap ((i : Int) + 1) = ((i + 1 : Nat) : Int) := by rw [w64s (by omega) (by omega)]; omega
      have hm : ((if breakC l[i] = 9 then some (true) else (if breakC l[i] = 10 then some (true) else some (false))) : Option Bool) = some (Sg.mark (breakC l[i])) := by
        by_cases a : breakC l[i] = 9
        · rw [a]; rfl
        · by_cases b : breakC l[i] = 10
          · rw [b]; rfl
          · rw [if_neg a, if_neg b]; unfold Sg.mark; rw [beq_false_of_ne a, beq_false_of_ne b]; rfl
      rw [if_pos (by omega), hx, Option.bind_some, hrf, Option.bind_some]
      simp only [hw, hm, Option.bind_some, hx, hwd, hi1]
      have ih := units_L1 hN hl hr f (i + 1)
      -- a new unit
      have new : ∀ w : U, w = nw breakC wdC l[i] → (apg out [w]).bind (fun o => rUnits_L1 N l f o ((i + 1 : Nat) : Int)) = some (out ++ unF breakC wdC (nw breakC wdC l[i]) (l.drop (i + 1))) := by
        intro w hw'
        have : apg out [w] = some (out ++ [w]) := by unfold apg; rw [if_pos (by simp; omega)]
        rw [this, Option.bind_some, ih (out ++ [w]) (by omega) h (by simp; omega) (by simp) (fun pre u e => by
          have := List.append_inj' e rfl
          have : w = u := by simpa using this.2
          rw [← this, hw']; show (0 : Int) ≤ 1 ∧ (1 : Int) ≤ ((i + 1 : Nat) : Int); omega)]
        simp [hw']
      have hnw0 : Sg.mark (breakC l[i]) = true → ((0 : Int), l[i], (1 : Int), decide (breakC l[i] = 10), wdC l[i]) = nw breakC wdC l[i] := by
        intro e; unfold nw; rw [if_pos e]; rfl
      have hnw1 : Sg.mark (breakC l[i]) = false → (breakC l[i], l[i], (1 : Int), decide (breakC l[i] = 10), wdC l[i]) = nw breakC wdC l[i] := by
        intro e; unfold nw; rw [if_neg (by rw [e]; decide)]; rfl
      rw [List.drop_eq_getElem_cons h]
      rcases List.eq_nil_or_concat out with hout | ⟨pre, u, hout⟩
      · subst hout
        simp only [List.reverse_nil, uns]
        cases hmm : Sg.mark (breakC l[i]) with
        | true =>
          simp only [List.length_nil, Option.bind_some]
          rw [if_neg (by decide)]
          simp only [Option.bind_some]
          exact (new _ (hnw0 hmm)).trans (by simp)
        | false =>
          simp only [Option.bind_some]
          exact (new _ (hnw1 hmm)).trans (by simp)
      · rw [List.concat_eq_append] at hout
        subst hout
        have hub := hu pre u rfl
        have hlen : IntKind.i64.wrap (((pre ++ [u]).length : Int) - 1) = ((pre ++ [u]).length : Int) - 1 := w64s (by omega) (by omega)
        have hin : rIn N u.1 [1, 2, 3, 4, 5, 6] = some (spaced u.1) := by rw [rIn_eq (by decide) hN, cS]
        simp only [hlen, ixg_last, hin, Option.bind_some]
        rw [List.reverse_append, List.reverse_singleton, List.singleton_append]
        simp only [List.reverse_reverse]
        cases hmm : Sg.mark (breakC l[i]) with
        | true =>
          simp only [Option.bind_some]
          rw [if_pos (by simp)]
          simp only [Option.bind_some]
          cases hss : spaced u.1 with
          | true =>
            simp only [Option.bind_some]
            refine (new _ (hnw0 hmm)).trans ?_
            rw [unF, hmm, hss]
            simp
          | false =>
            have hwn : IntKind.i64.wrap (u.2.2.1 + 1) = u.2.2.1 + 1 := w64s (by omega) (by omega)
            simp only [Option.bind_some, hwn]
            have := setg_last pre u (u.1, u.2.1, u.2.2.1 + 1, decide (breakC l[i] = 10), u.2.2.2.2)
            rw [this, Option.bind_some, ih _ (by omega) h (by simp at ho ⊢; omega) (by simp) (fun pre' u' e => by
              have := List.append_inj' e rfl
              have : (u.1, u.2.1, u.2.2.1 + 1, decide (breakC l[i] = 10), u.2.2.2.2) = u' := by simpa using this.2
              rw [← this]; show 0 ≤ u.2.2.1 + 1 ∧ u.2.2.1 + 1 ≤ ((i + 1 : Nat) : Int); omega)]
            rw [unF, hmm, hss]
            simp
            rfl
        | false =>
          simp only [Option.bind_some]
          refine (new _ (hnw1 hmm)).trans ?_
          rw [unF, hmm]
          simp
    · rw [if_neg (by omega), List.drop_eq_nil_of_le (by omega)]
      rcases List.eq_nil_or_concat out with hout | ⟨pre, u, hout⟩
      · subst hout; rfl
      · rw [List.concat_eq_append] at hout; subst hout; simp [unF]
theorem rUnits_eq (hN : 200 ≤ N) {l : List Int} (hl : l.length ≤ 100000) (hN2 : l.length < N) (hr : ∀ x ∈ l, i32b x = true) : rUnits N l = some (uns breakC wdC l) := by
  unfold rUnits
  have := units_L1 hN hl hr N 0 [] (by omega) (by omega) (by simp) (fun _ => rfl) (fun pre u e => by simp at e)
  rw [show ((0 : Nat) : Int) = 0 from rfl] at this
  rw [this]; rfl
theorem apx_le {l r : List Int} (h : l.length + r.length ≤ 1000000000) : apx l r = some (l ++ r) := by
  unfold apx
  rw [if_pos (by omega)]
theorem rBr_L2 {us : List U} {x : Int} {u : U} (hx : ixg us x = some u) (hu : u.2.2.1 ≤ 1000) : ∀ (f : Nat) (k : Nat) (out : List Int), out.length + (u.2.2.1 - k).toNat ≤ 900000 → (u.2.2.1 - k).toNat < f → rBreaks_L2 N us x f out (k : Int) = some (out ++ List.replicate (u.2.2.1 - k).toNat 0)
  | 0, k, out, _, h => by omega
  | f + 1, k, out, ho, hf => by
    unfold rBreaks_L2
    rw [hx, Option.bind_some]
    by_cases h : (k : Int) < u.2.2.1
    · have ih := rBr_L2 hx hu f (k + 1) (out ++ [0]) (by simp; omega) (by omega)
      rw [if_pos h, apx_le (by simp; omega), Option.bind_some, w64s (by omega) (by omega), show (k : Int) + 1 = ((k + 1 : Nat) : Int) by omega, ih]
      rw [List.append_assoc, show (u.2.2.1 - k).toNat = (u.2.2.1 - ((k + 1 : Nat) : Int)).toNat + 1 by omega, List.replicate_succ]; rfl
    · rw [if_neg h, show (u.2.2.1 - k).toNat = 0 by omega]; simp
end
end Go.Proofs.YtdbimchiecdkoaaGreat
