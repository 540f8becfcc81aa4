/-
  Joined.
-/
import Derived.Test.YtkcmemldhbifdaaDoorJA
import Derived.Test.YtkcmemldhbifdaaDoorFTiles
import Derived.Test.YtkcmemldhbifdaaDoorFScripts
import Derived.Test.YtkcmemldhbifdaaDoorFRuns
import Derived.Test.YtkcmemldhbifdaaDoorFParts
namespace Go.Proofs.YtkcmemldhbifdaaDoor
open Go Go.RowKit _root_.It
set_option linter.unusedVariables false
set_option linter.unusedSimpArgs false
theorem runsAt_len (Z : List Zc) : (runsAt 0 Z).length ≤ Z.length := by
  have : ∀ (T : List Zc) (f i v s : Int) (b : Bool), (rnF f i v s b T).length ≤ T.length + 1 := by
    intro T
    induction T with
    | nil => intro f i v s b; simp [rnF]
    | cons z T ih =>
      intro f i v s b
      obtain ⟨v', s', b'⟩ := z
      unfold rnF
      split
      · have := ih f (i + 1) v s b'; simp; omega
      · have := ih i (i + 1) v' s' b'; simp; omega
  cases Z with
  | nil => simp [runsAt]
  | cons z T => obtain ⟨v, s, b⟩ := z; exact this T 0 1 v s b
theorem zipZ_len : ∀ (l lv sc : List Int), (zipZ l lv sc).length ≤ l.length
  | [], _, _ => by simp [zipZ]
  | _ :: _, [], _ => by simp [zipZ]
  | _ :: _, _ :: _, [] => by simp [zipZ]
  | x :: l, v :: lv, s :: sc => by simp only [zipZ, List.length_cons]; have := zipZ_len l lv sc; omega
theorem kWorks_true {N : Nat} (hN : 200 ≤ N) : kWorks N = some true := by
  have e1 : runsAt 0 (zipZ [97, 32, 1488] [0, 0, 1] (It.scripts D0 [97, 32, 1488])) = [(0, 2, 0, 2), (2, 3, 1, 3)] := by kernel_rfl
  unfold kWorks
  rw [pRuns_eq (l := [97, 32, 1488]) (lv := [0, 0, 1]) (by simp; omega) (by simp) rfl, Option.bind_some, e1]
  rfl
theorem zipZ_ix {l lv sc : List Int} (h1 : lv.length = l.length) (h2 : sc.length = l.length) {k : Nat} {v s : Int} {b : Bool} (h : (zipZ l lv sc)[k]? = some (v, s, b)) : k < l.length ∧ lv[k]? = some v ∧ sc[k]? = some s ∧ D0.sep (l.getD k 0) = b := by
  have hk : k < l.length := by
    have := (List.getElem?_eq_some_iff.1 h).1
    have := zipZ_len l lv sc
    omega
  have hz := zipZ_at h1 h2 hk
  rw [← List.head?_drop, hz] at h
  simp only [List.head?_cons, Option.some.injEq, Prod.mk.injEq] at h
  obtain ⟨rfl, rfl, rfl⟩ := h
  exact ⟨hk, getD_some (by omega), getD_some (by omega), rfl⟩
section
variable {N : Nat} {l r : List Int} {R : List Rn}
theorem tl_L3 (hl : l.length ≤ 1000) (j : Nat) (run : Rn) (hR : R[j]? = some run) (a t : Nat) (ht : run.2.1 = (t : Int)) (htl : t ≤ l.length) (hk : ∀ k, a ≤ k → k < t → r[k]? = some run.2.2.1 ∧ (It.scripts D0 l)[k]? = some run.2.2.2 ∧ (D0.sep (l.getD k 0) = true → k + 1 = t)) :
    ∀ (f k : Nat), a ≤ k → t - k < f → k ≤ t → fTiles_L3 N l r R (It.scripts D0 l) (j : Int) f (k : Int) = some (Ctl.go ())
  | 0, k, _, h, _ => by omega
  | f + 1, k, ha, hf, hkt => by
    unfold fTiles_L3
    rw [ixg_nat hR, Option.bind_some, ht]
    by_cases h : k < t
    · obtain ⟨k1, k2, k3⟩ := hk k ha h
      have hx := getD_some (l := l) (i := k) (by omega)
      have ih := tl_L3 hl j run hR a t ht htl hk f (k + 1) (by omega) (by omega) h
      have e : IntKind.i64.wrap ((k : Int) + 1) = ((k + 1 : Nat) : Int) := by rw [w64s (by omega) (by omega)]; omega
      have e2 : IntKind.i64.wrap ((t : Int) - 1) = (t : Int) - 1 := w64s (by omega) (by omega)
      have hsc : ∀ x, rfSc N x = some (scrC x) := fun _ => rfl
      have hcl : ∀ x, rfCl N x = some (claC x) := fun _ => rfl
      have hown : 1 < scrC (l.getD k 0) → scrC (l.getD k 0) = run.2.2.2 := by
        intro h1
        have := scF_own D0 l 0 [] k _ hx h1
        have e : (It.scripts D0 l)[k]? = some (D0.scr (l.getD k 0)) := this
        rw [e] at k2
        exact Option.some.inj k2
      have hsep : claC (l.getD k 0) = 11 → k + 1 = t := fun h1 => k3 (by show decide (claC (l.getD k 0) = 11) = true; rw [decide_eq_true h1])
      rw [if_pos (by omega), ix_nat hx, Option.bind_some, hsc, Option.bind_some, ix_nat k1, Option.bind_some, e, ih]
      simp only [ix_nat k2, Option.bind_some, ixg_nat hR, ne_eq, not_true_eq_false, if_false, hcl, ht, e2]
      have m1 : ((if scrC (l.getD k 0) > 1 then (if ¬ scrC (l.getD k 0) = run.2.2.2 then some (true) else some (false)) else some (false)) : Option Bool) = some false := by
        by_cases h1 : scrC (l.getD k 0) > 1
        · rw [if_pos h1, if_neg (fun h => h (hown h1))]
        · rw [if_neg h1]
      simp only [m1, Option.bind_some]
      have m2 : ((if claC (l.getD k 0) = 11 then (if ¬ (k : Int) = (t : Int) - 1 then some (Ctl.ret false) else some (Ctl.go ())) else some (Ctl.go ())) : Option (Ctl Unit Bool)) = some (Ctl.go ()) := by
        by_cases h1 : claC (l.getD k 0) = 11
        · rw [if_pos h1, if_neg (fun h => h (by have := hsep h1; omega))]
        · rw [if_neg h1]
      simp only [m2, Option.bind_some]
      by_cases h1 : scrC (l.getD k 0) = 1
      · by_cases h0 : 0 < k
        · have hp := getD_some (l := l) (i := k - 1) (by omega)
          have e3 : IntKind.i64.wrap ((k : Int) - 1) = ((k - 1 : Nat) : Int) := by rw [w64s (by omega) (by omega)]; omega
          rw [if_pos h1, if_pos (by omega)]
          simp only [Option.bind_some, e3, ix_nat hp, hcl]
          by_cases h11 : claC (l.getD (k - 1) 0) = 11
          · rw [if_neg (fun h => h h11)]; rfl
          · rw [if_pos h11]
            simp only [Option.bind_some]
            have hlen : (It.scripts D0 l).length = l.length := scF_len D0 l 0 []
            have hq := getD_some (l := It.scripts D0 l) (i := k - 1) (by omega)
            have hm := scF_marks D0 l 0 [] (fun d s hm => by cases hm) (k - 1) _ (l.getD k 0) _ hp (by rw [show k - 1 + 1 = k by omega]; exact hx) (by show decide (claC (l.getD (k - 1) 0) = 11) = false; rw [decide_eq_false h11]) h1 hq
            rw [show k - 1 + 1 = k by omega] at hm
            have hm' : (It.scripts D0 l)[k]? = some ((It.scripts D0 l).getD (k - 1) 0) := hm
            rw [hm'] at k2
            rw [ix_nat hq, Option.bind_some, Option.some.inj k2, if_neg (fun h => h rfl)]
        · rw [if_pos h1, if_neg (by omega)]; rfl
      · rw [if_neg h1]; rfl
    · rw [if_neg (by omega)]
theorem tl_L2 (hN : 2000 ≤ N) (hl : l.length ≤ 1000) (hr : r.length = l.length) (hR : R.length ≤ 1000) : ∀ (f j a : Nat) (p : Option (Int × Int × Bool)), R.length - j < f → j ≤ R.length → Tiles (zipZ l r (It.scripts D0 l)) a p (R.drop j) →
    (0 < j → ∃ q b, R[j - 1]? = some q ∧ p = some (q.2.2.1, q.2.2.2, b) ∧ 0 < a ∧ D0.sep (l.getD (a - 1) 0) = b) → (zipZ l r (It.scripts D0 l)).length = l.length →
    fTiles_L2 N l r R (It.scripts D0 l) f (a : Int) (j : Int) = some (Ctl.go (l.length : Int))
  | 0, j, a, p, h, _, _, _, _ => by omega
  | f + 1, j, a, p, hf, hj, hT, hp, hZ => by
    unfold fTiles_L2
    have hsl : (It.scripts D0 l).length = l.length := scF_len D0 l 0 []
    by_cases h : j < R.length
    · obtain ⟨run, hrun⟩ : ∃ run, R[j]? = some run := ⟨R[j], List.getElem?_eq_getElem h⟩
      have hd : R.drop j = run :: R.drop (j + 1) := by
        rw [List.drop_eq_getElem_cons h]; congr 1; rw [List.getElem?_eq_getElem h] at hrun; exact Option.some.inj hrun
      rw [hd] at hT
      obtain ⟨t0, t, t1, t2, t3, t4, t5, b, t6, t7⟩ := hT
      rw [hZ] at t3
      have hk : ∀ k, a ≤ k → k < t → r[k]? = some run.2.2.1 ∧ (It.scripts D0 l)[k]? = some run.2.2.2 ∧ (D0.sep (l.getD k 0) = true → k + 1 = t) := by
        intro k k1 k2
        obtain ⟨c, c1, c2⟩ := t4 k k1 k2
        obtain ⟨d1, d2, d3, d4⟩ := zipZ_ix hr hsl c1
        exact ⟨d2, d3, fun hs => c2 (by rw [← d4, hs])⟩
      have L3 := tl_L3 (N := N) (r := r) hl j run hrun a t t1 t3 hk N a (Nat.le_refl _) (by omega) (by omega)
      have e : IntKind.i64.wrap ((j : Int) + 1) = ((j + 1 : Nat) : Int) := by rw [w64s (by omega) (by omega)]; omega
      obtain ⟨z1, z2, z3, z4⟩ := zipZ_ix hr hsl t6
      have ih := tl_L2 hN hl hr hR f (j + 1) t (some (run.2.2.1, run.2.2.2, b)) (by omega) h t7 (fun _ => ⟨run, b, by rw [Nat.add_sub_cancel]; exact hrun, rfl, by omega, z4⟩) hZ
      rw [if_pos (by omega)]
      simp only [ixg_nat hrun, Option.bind_some, t0, t1, ne_eq, not_true_eq_false, if_false, e]
      rw [if_neg (by omega)]
      simp only [Option.bind_some]
      rw [if_neg (by omega)]
      simp only [Option.bind_some, L3]
      by_cases h0 : 0 < j
      · obtain ⟨q, bq, q1, q2, q3, q4⟩ := hp h0
        have e3 : IntKind.i64.wrap ((j : Int) - 1) = ((j - 1 : Nat) : Int) := by rw [w64s (by omega) (by omega)]; omega
        have e4 : IntKind.i64.wrap ((a : Int) - 1) = ((a - 1 : Nat) : Int) := by rw [w64s (by omega) (by omega)]; omega
        have hx := getD_some (l := l) (i := a - 1) (by omega)
        rw [if_pos (by omega)]
        simp only [e3, e4, ixg_nat q1, Option.bind_some, ix_nat hx]
        by_cases c1 : q.2.2.1 = run.2.2.1
        · simp only [c1, if_true, Option.bind_some]
          by_cases c2 : q.2.2.2 = run.2.2.2
          · have hb := t5 _ _ _ q2 c1 c2
            rw [hb] at q4
            have h11 : claC (l.getD (a - 1) 0) = 11 := by simpa [D0] using q4
            have hcl : rfCl N (l.getD (a - 1) 0) = some (claC (l.getD (a - 1) 0)) := rfl
            simp only [c2, if_true, Option.bind_some, hcl, h11, not_true_eq_false, if_false]
            exact ih
          · simp only [c2, if_false, Option.bind_some]
            exact ih
        · simp only [c1, if_false, Option.bind_some]
          exact ih
      · rw [if_neg (by omega)]
        simp only [Option.bind_some]
        exact ih
    · rw [if_neg (by omega)]
      rw [List.drop_eq_nil_of_le (by omega)] at hT
      have : a = (zipZ l r (It.scripts D0 l)).length := hT
      rw [this, hZ]
theorem tl_L1 {lv : List Int} (hl : l.length ≤ 1000) : ∀ (f i : Nat) (out : List Int), l.length - i < f → i ≤ l.length → out.length = l.length → ∃ r, fTiles_L1 N l lv f out (i : Int) = some r ∧ r.length = l.length
  | 0, i, out, h, _, _ => by omega
  | f + 1, i, out, hf, hi, ho => by
    unfold fTiles_L1
    by_cases h : i < l.length
    · rw [if_pos (by omega)]
      by_cases h2 : i < lv.length
      · have e : IntKind.i64.wrap ((i : Int) + 1) = ((i + 1 : Nat) : Int) := by rw [w64s (by omega) (by omega)]; omega
        rw [if_pos (by omega), ix_nat (getD_some h2), Option.bind_some, ix_nat (getD_some (l := out) (i := i) (by omega)), Option.bind_some, setx_nat (by omega), Option.bind_some, e]
        exact tl_L1 hl f (i + 1) _ (by omega) h (by simpa using ho)
      · rw [if_neg (by omega)]; exact ⟨out, rfl, ho⟩
    · rw [if_neg (by omega)]; exact ⟨out, rfl, ho⟩
theorem zipZ_len' : ∀ (l lv sc : List Int), lv.length = l.length → sc.length = l.length → (zipZ l lv sc).length = l.length
  | [], _, _, _, _ => by simp [zipZ]
  | x :: l, [], _, h, _ => by simp at h
  | x :: l, v :: lv, [], _, h => by simp at h
  | x :: l, v :: lv, s :: sc, h1, h2 => by simp only [zipZ, List.length_cons]; rw [zipZ_len' l lv sc (by simpa using h1) (by simpa using h2)]
theorem fTiles_true {lv : List Int} (hN : 2000 ≤ N) : fTiles N l lv = some true := by
  unfold fTiles
  rw [kWorks_true (by omega)]
  by_cases h : (l.length : Int) > 300
  · rw [if_pos h]; rfl
  have hsl : (It.scripts D0 l).length = l.length := scF_len D0 l 0 []
  have em : mkx (l.length : Int) = some (List.replicate l.length 0) := by unfold mkx; rw [if_pos ⟨by omega, by omega⟩]; simp
  obtain ⟨r, hr, hrl⟩ := tl_L1 (N := N) (l := l) (lv := lv) (by omega) N 0 (List.replicate l.length 0) (by omega) (by omega) (by simp)
  rw [show ((0 : Nat) : Int) = 0 from rfl] at hr
  have hz := zipZ_len' l r (It.scripts D0 l) hrl hsl
  have hR := runsAt_len (zipZ l r (It.scripts D0 l))
  have L2 := tl_L2 (N := N) (l := l) (r := r) (R := runsAt 0 (zipZ l r (It.scripts D0 l))) hN (by omega) hrl (by omega) N 0 0 none (by omega) (by omega) (by rw [List.drop_zero]; exact runs_tiles _) (fun h => by omega) hz
  rw [show ((0 : Nat) : Int) = 0 from rfl] at L2
  rw [if_neg h, em, Option.bind_some, hr, Option.bind_some, pRuns_eq (by omega) (by omega) hrl, Option.bind_some]
  simp only []
  rw [pScripts_eq (by omega) (by omega), Option.bind_some, hsl]
  simp only [ne_eq, not_true_eq_false, if_false, Option.bind_some, L2, if_true]
end
end Go.Proofs.YtkcmemldhbifdaaDoor

namespace Go.Proofs.YtkcmemldhbifdaaDoor
open Go Go.RowKit _root_.It
set_option linter.unusedVariables false
set_option linter.unusedSimpArgs false
section
variable {N : Nat} {l : List Int}
theorem apx_ok {l r : List Int} (h : l.length + r.length ≤ 1000000) : apx l r = some (l ++ r) := by
  unfold apx
  rw [if_pos (by omega)]
theorem sc_L2 {s : List Int} (hl : s.length ≤ 1000) : ∀ (f i : Nat) (out : List Int), out.length = s.length → s.length - i < f → fScripts_L2 N s f out (i : Int) = some (Ctl.go ())
  | 0, i, out, _, h => by omega
  | f + 1, i, out, ho, hf => by
    unfold fScripts_L2
    by_cases h : i < s.length
    · rw [if_pos (by omega), ix_nat (getD_some (l := out) (i := i) (by omega)), Option.bind_some, setx_nat (by omega), Option.bind_some, w64s (by omega) (by omega), show (i : Int) + 1 = ((i + 1 : Nat) : Int) by omega]
      exact sc_L2 hl f (i + 1) _ (by simpa using ho) (by omega)
    · rw [if_neg (by omega)]
theorem fScripts_true (hN : 2000 ≤ N) : fScripts N l = some true := by
  unfold fScripts
  rw [kWorks_true (by omega)]
  by_cases h : (l.length : Int) > 300
  · rw [if_pos h]; rfl
  have hsl : (It.scripts D0 l).length = l.length := scF_len D0 l 0 []
  have hL2 := sc_L2 (N := N) (s := It.scripts D0 l) (by omega) N 0 (It.scripts D0 l) rfl (by omega)
  rw [show ((0 : Nat) : Int) = 0 from rfl] at hL2
  have hL1 : fScripts_L1 N l (It.scripts D0 l) N 0 = some (Ctl.go ()) := by
    obtain ⟨k, hk⟩ : ∃ k, N = k + 3 := ⟨N - 3, by omega⟩
    have hp : pScripts N l = some (It.scripts D0 l) := pScripts_eq (by omega) (by omega)
    have hb : (!((strOfNums (It.scripts D0 l)).toList == (strOfNums (It.scripts D0 l)).toList)) = false := by simp
    have step : ∀ f (x : Int), x < 2 → fScripts_L1 N l (It.scripts D0 l) (f + 1) x = fScripts_L1 N l (It.scripts D0 l) f (IntKind.i64.wrap (x + 1)) := by
      intro f x hx
      rw [fScripts_L1, if_pos hx, hp, Option.bind_some, hb, Option.bind_some]
      simp only [hL2, Option.bind_some]
    have last : ∀ f (x : Int), ¬ x < 2 → fScripts_L1 N l (It.scripts D0 l) (f + 1) x = some (Ctl.go ()) := by
      intro f x hx
      rw [fScripts_L1, if_neg hx]
    have e : fScripts_L1 N l (It.scripts D0 l) (k + 3) 0 = some (Ctl.go ()) := by
      rw [step (k + 2) 0 (by decide), show IntKind.i64.wrap (0 + 1) = 1 from by rw [w64s (by decide) (by decide)]; rfl, step (k + 1) 1 (by decide), show IntKind.i64.wrap (1 + 1) = 2 from by rw [w64s (by decide) (by decide)]; rfl, last k 2 (by decide)]
    rw [← hk] at e
    exact e
  have hb2 : ((runesBytes l).toList == (runesBytes l).toList) = true := by simp
  rw [if_neg h, apx_ok (by simp; omega), Option.bind_some, List.nil_append, rScripts_eq (by omega) (by omega), Option.bind_some, hL1]
  simp only [Option.bind_some, hb2]
theorem rRuns_arg {lv : List Int} (hl : l.length ≤ 65536) (h1 : lv.length ≠ l.length) : rRuns N l lv = some ([], 2) := by
  unfold rRuns
  rw [if_neg (by omega), if_pos (by omega)]
theorem rn_L1 (R : List Rn) (hR : R.length ≤ 1000) : ∀ (f j : Nat), R.length - j < f → fRuns_L1 N R R f (j : Int) = some (Ctl.go ())
  | 0, j, h => by omega
  | f + 1, j, hf => by
    unfold fRuns_L1
    by_cases h : j < R.length
    · obtain ⟨y, hy⟩ : ∃ y, R[j]? = some y := ⟨R[j], List.getElem?_eq_getElem h⟩
      have ih := rn_L1 R hR f (j + 1) (by omega)
      have e : IntKind.i64.wrap ((j : Int) + 1) = ((j + 1 : Nat) : Int) := by rw [w64s (by omega) (by omega)]; omega
      rw [if_pos (by omega)]
      simp only [ixg_nat hy, Option.bind_some, ne_eq, not_true_eq_false, if_false, e, ih]
    · rw [if_neg (by omega)]
theorem fRuns_true {lv : List Int} (hN : 2000 ≤ N) : fRuns N l lv = some true := by
  unfold fRuns
  rw [kWorks_true (by omega)]
  by_cases h : (l.length : Int) > 300
  · rw [if_pos h]; rfl
  by_cases h2 : (lv.length : Int) > 300
  · rw [if_neg h, if_pos h2]; rfl
  have hb : (!((strOfNums lv).toList == (strOfNums lv).toList)) = false := by simp
  rw [if_neg h, if_neg h2]
  simp only [Option.bind_some]
  rw [apx_ok (by simp; omega), Option.bind_some, List.nil_append]
  by_cases h3 : lv.length = l.length
  · have hz := zipZ_len l lv (It.scripts D0 l)
    have hR := runsAt_len (zipZ l lv (It.scripts D0 l))
    have L1 := rn_L1 (N := N) (runsAt 0 (zipZ l lv (It.scripts D0 l))) (by omega) N 0 (by omega)
    rw [show ((0 : Nat) : Int) = 0 from rfl] at L1
    rw [pRuns_eq (by omega) (by omega) h3, Option.bind_some, rRuns_eq (by omega) (by omega) h3, Option.bind_some]
    simp only [ne_eq, not_true_eq_false, if_false, Option.bind_some, hb, L1]
  · have L1 := rn_L1 (N := N) [] (by simp) N 0 (by simp; omega)
    rw [show ((0 : Nat) : Int) = 0 from rfl] at L1
    rw [pRuns_arg (by omega) h3, Option.bind_some, rRuns_arg (by omega) h3, Option.bind_some]
    simp only [ne_eq, not_true_eq_false, if_false, Option.bind_some, hb, L1]
theorem pa_L1 {v : Int} {s : List Int} (hl : s.length ≤ 1000) : ∀ (f i : Nat) (out : List Int), out.length = s.length → s.length - i < f → i ≤ s.length → fParts_L1 N v s f out (i : Int) = some (out.take i ++ List.replicate (s.length - i) v)
  | 0, i, out, _, h, _ => by omega
  | f + 1, i, out, ho, hf, hi => by
    unfold fParts_L1
    by_cases h : i < s.length
    · rw [if_pos (by omega), ix_nat (getD_some (l := out) (i := i) (by omega)), Option.bind_some, setx_nat (by omega), Option.bind_some, w64s (by omega) (by omega), show (i : Int) + 1 = ((i + 1 : Nat) : Int) by omega,
        pa_L1 hl f (i + 1) _ (by simpa using ho) (by omega) h]
      congr 1
      rw [show s.length - i = (s.length - (i + 1)) + 1 by omega, List.replicate_succ, List.take_add_one]
      simp [ho, h, List.take_set_of_le]
    · rw [if_neg (by omega), show s.length - i = 0 by omega, List.take_of_length_le (by omega)]
      simp
theorem pa_L2 {hd : List Int} (u v : List Rn) (hh : hd.length ≤ 1000) (hu : u.length ≤ 1000) (hv : v.length ≤ 1000) (hb : ∀ y ∈ v, 0 ≤ y.1 ∧ y.1 ≤ 1000 ∧ 0 ≤ y.2.1 ∧ y.2.1 ≤ 1000) : ∀ (f j : Nat), u.length + v.length - j < f → fParts_L2 N hd (u ++ v.map (shift hd.length)) u v f (j : Int) = some (Ctl.go ())
  | 0, j, h => by omega
  | f + 1, j, hf => by
    unfold fParts_L2
    have hlen : (u ++ v.map (shift (hd.length : Int))).length = u.length + v.length := by simp
    rw [hlen]
    by_cases h : j < u.length + v.length
    · have ih := pa_L2 u v hh hu hv hb f (j + 1) (by omega)
      have e : IntKind.i64.wrap ((j : Int) + 1) = ((j + 1 : Nat) : Int) := by rw [w64s (by omega) (by omega)]; omega
      rw [if_pos (by omega)]
      by_cases hj : j < u.length
      · obtain ⟨y, hy⟩ : ∃ y, u[j]? = some y := ⟨u[j], List.getElem?_eq_getElem hj⟩
        have hy2 : (u ++ v.map (shift (hd.length : Int)))[j]? = some y := by rw [List.getElem?_append_left hj]; exact hy
        rw [if_pos (by omega)]
        simp only [ixg_nat hy, ixg_nat hy2, Option.bind_some, decide_true, Bool.xor_true, Bool.not_true]
        rw [if_neg (by omega), e, ih]
      · obtain ⟨y, hy⟩ : ∃ y, v[j - u.length]? = some y := ⟨v[j - u.length], List.getElem?_eq_getElem (by omega)⟩
        have hy2 : (u ++ v.map (shift (hd.length : Int)))[j]? = some (shift (hd.length : Int) y) := by
          rw [List.getElem?_append_right (by omega), List.getElem?_map, hy]; rfl
        have hby := hb y (List.mem_iff_getElem?.2 ⟨_, hy⟩)
        have e2 : IntKind.i64.wrap ((j : Int) - (u.length : Int)) = ((j - u.length : Nat) : Int) := by rw [w64s (by omega) (by omega)]; omega
        have e3 : IntKind.i64.wrap (y.1 + (hd.length : Int)) = y.1 + hd.length := w64s (by omega) (by omega)
        have e4 : IntKind.i64.wrap (y.2.1 + (hd.length : Int)) = y.2.1 + hd.length := w64s (by omega) (by omega)
        rw [if_neg (by omega)]
        simp only [Option.bind_some]
        rw [if_pos (by omega)]
        simp only [e2, ixg_nat hy, ixg_nat hy2, Option.bind_some, e3, e4, shift, decide_true, Bool.xor_true, Bool.not_true, e, ih]
    · rw [if_neg (by omega)]
theorem zipZ_app : ∀ (a b s1 s2 : List Int) (v : Int), s1.length = a.length → zipZ (a ++ b) (List.replicate (a.length + b.length) v) (s1 ++ s2) = zipZ a (List.replicate a.length v) s1 ++ zipZ b (List.replicate b.length v) s2
  | [], b, s1, s2, v, h => by
    have : s1 = [] := List.length_eq_zero_iff.1 h
    subst this
    simp [zipZ]
  | x :: a, b, [], s2, v, h => by simp at h
  | x :: a, b, s :: s1, s2, v, h => by
    have := zipZ_app a b s1 s2 v (by simpa using h)
    simp only [List.cons_append, List.length_cons]
    rw [show a.length + 1 + b.length = (a.length + b.length) + 1 by omega, List.replicate_succ, List.replicate_succ]
    simp only [zipZ, List.cons_append, this]
theorem tiles_bound {Z : List Zc} : ∀ (R : List Rn) (a : Nat) (p : Option (Int × Int × Bool)), Tiles Z a p R → ∀ y ∈ R, 0 ≤ y.1 ∧ y.1 ≤ Z.length ∧ 0 ≤ y.2.1 ∧ y.2.1 ≤ Z.length
  | [], _, _, _, y, hy => by cases hy
  | r :: R, a, p, h, y, hy => by
    obtain ⟨t0, t, t1, t2, t3, t4, t5, b, t6, t7⟩ := h
    rcases List.mem_cons.1 hy with rfl | hy
    · rw [t0, t1]; omega
    · exact tiles_bound R t _ t7 y hy
end
end Go.Proofs.YtkcmemldhbifdaaDoor

namespace Go.Proofs.YtkcmemldhbifdaaDoor
open Go Go.RowKit _root_.It
set_option linter.unusedVariables false
set_option linter.unusedSimpArgs false
theorem sep_e : D0.sep 8233 = true := by kernel_rfl
theorem zip_last {h lv sc : List Int} (h1 : lv.length = h.length) (h2 : sc.length = h.length) (e : Int) (he : h.getLast? = some e) (hs : D0.sep e = true) : ∀ z, (zipZ h lv sc).getLast? = some z → z.2.2 = true := by
  intro z hz
  have hl := zipZ_len' h lv sc h1 h2
  rw [List.getLast?_eq_getElem?, hl] at hz
  obtain ⟨v, s, b⟩ := z
  obtain ⟨k1, k2, k3, k4⟩ := zipZ_ix h1 h2 hz
  rw [List.getLast?_eq_getElem?] at he
  rw [List.getD_eq_getElem?_getD, he] at k4
  show b = true
  rw [← k4]; exact hs
theorem cut_app {a b : List Int} : cutx (a ++ b) 0 (a.length : Int) = some a := by
  unfold cutx
  rw [if_pos ⟨by omega, by omega, by rw [List.length_append]; omega⟩, Int.toNat_natCast, List.take_left]; rfl
theorem cut_app2 {a b : List Int} {n : Int} (hn : n = ((a ++ b).length : Nat)) : cutx (a ++ b) (a.length : Int) n = some b := by
  subst hn
  unfold cutx
  rw [if_pos ⟨by omega, by rw [List.length_append]; omega, by omega⟩, Int.toNat_natCast, Int.toNat_natCast, List.take_length, List.drop_left]
theorem fParts_true {N : Nat} {a b : List Int} {v : Int} (hN : 2000 ≤ N) : fParts N a b v = some true := by
  unfold fParts
  rw [kWorks_true (by omega)]
  by_cases h : (a.length : Int) > 150
  · rw [if_pos h]; rfl
  by_cases h2 : (b.length : Int) > 150
  · rw [if_neg h, if_pos h2]; rfl
  rw [if_neg h, if_neg h2]
  obtain ⟨H, hH⟩ : ∃ H, H = a ++ [(8233 : Int)] := ⟨_, rfl⟩
  have hHl : H.length = a.length + 1 := by rw [hH]; simp
  have hHe : H.getLast? = some 8233 := by rw [hH]; simp
  have hsp : It.scripts D0 (H ++ b) = It.scripts D0 H ++ It.scripts D0 b := by
    have := scripts_parts D0 sep_e a b
    rw [hH, List.append_assoc]; exact this
  have s1 : (It.scripts D0 H).length = H.length := scF_len D0 H 0 []
  have s2 : (It.scripts D0 b).length = b.length := scF_len D0 b 0 []
  have s0 : (It.scripts D0 (H ++ b)).length = (H ++ b).length := scF_len D0 (H ++ b) 0 []
  have hlen : (H ++ b).length = H.length + b.length := List.length_append
  simp only [Option.bind_some]
  rw [apx_ok (by simp; omega), Option.bind_some, List.nil_append, apx_ok (by simp; omega), Option.bind_some, ← hH, apx_ok (by omega), Option.bind_some, cut_app, Option.bind_some,
    pScripts_eq (by omega) (by omega), Option.bind_some, pScripts_eq (by omega) (by omega), Option.bind_some, pScripts_eq (by omega) (by omega), Option.bind_some, s0, s1, s2]
  simp only [ne_eq, not_true_eq_false, if_false, Option.bind_some]
  have c1 : cutx (It.scripts D0 (H ++ b)) 0 (H.length : Int) = some (It.scripts D0 H) := by rw [hsp, ← s1]; exact cut_app
  have c2 : cutx (It.scripts D0 (H ++ b)) (H.length : Int) ((H ++ b).length : Int) = some (It.scripts D0 b) := by
    rw [hsp, ← s1]; exact cut_app2 (by rw [hlen]; simp; omega)
  have b1 : ∀ z : List Int, (!((strOfNums z).toList == (strOfNums z).toList)) = false := by intro z; simp
  rw [c1, c2]
  simp only [Option.bind_some, b1]
  have em : mkx ((H ++ b).length : Int) = some (List.replicate (H ++ b).length 0) := by unfold mkx; rw [if_pos ⟨by omega, by omega⟩, Int.toNat_natCast]
  have L1 := pa_L1 (N := N) (v := v) (s := List.replicate (H ++ b).length (0 : Int)) (by simp; omega) N 0 (List.replicate (H ++ b).length 0) rfl (by simp; omega) (by omega)
  rw [show ((0 : Nat) : Int) = 0 from rfl, List.take_zero, List.nil_append, Nat.sub_zero, List.length_replicate] at L1
  have hrep : List.replicate (H ++ b).length v = List.replicate H.length v ++ List.replicate b.length v := by rw [hlen, List.replicate_append_replicate]
  rw [em, Option.bind_some, L1, Option.bind_some]
  have r1 := pRuns_eq (N := N) (l := H ++ b) (lv := List.replicate (H ++ b).length v) (by omega) (by omega) (by simp)
  have r2 := pRuns_eq (N := N) (l := H) (lv := List.replicate H.length v) (by omega) (by omega) (by simp)
  have r3 := pRuns_eq (N := N) (l := b) (lv := List.replicate b.length v) (by omega) (by omega) (by simp)
  have c3 : cutx (List.replicate (H ++ b).length v) 0 (H.length : Int) = some (List.replicate H.length v) := by
    rw [hrep]; have := cut_app (a := List.replicate H.length v) (b := List.replicate b.length v); rw [List.length_replicate] at this; exact this
  have c4 : cutx (List.replicate (H ++ b).length v) (H.length : Int) ((List.replicate (H ++ b).length (0 : Int)).length : Int) = some (List.replicate b.length v) := by
    rw [List.length_replicate, hrep]; have := cut_app2 (a := List.replicate H.length v) (b := List.replicate b.length v) (n := ((H ++ b).length : Int)) (by rw [hlen]; simp); rw [List.length_replicate] at this; exact this
  rw [r1, Option.bind_some]
  simp only []
  rw [c3, Option.bind_some, r2, Option.bind_some]
  simp only []
  rw [c4, Option.bind_some, r3, Option.bind_some]
  simp only [not_true_eq_false, if_false, Option.bind_some]
  -- the runs of all are those of the parts
  have hz1 := zipZ_len' H (List.replicate H.length v) (It.scripts D0 H) (by simp) s1
  have hz2 := zipZ_len' b (List.replicate b.length v) (It.scripts D0 b) (by simp) s2
  have hall : runsAt 0 (zipZ (H ++ b) (List.replicate (H ++ b).length v) (It.scripts D0 (H ++ b))) = runsAt 0 (zipZ H (List.replicate H.length v) (It.scripts D0 H)) ++ (runsAt 0 (zipZ b (List.replicate b.length v) (It.scripts D0 b))).map (shift H.length) := by
    rw [hsp, hlen, zipZ_app H b (It.scripts D0 H) (It.scripts D0 b) v s1]
    have := runs_parts (zipZ H (List.replicate H.length v) (It.scripts D0 H)) (zipZ b (List.replicate b.length v) (It.scripts D0 b)) (fun e => by rw [e] at hz1; simp at hz1; omega) (zip_last (by simp) s1 8233 hHe sep_e)
    rw [hz1] at this
    exact this
  rw [hall]
  have q1 := runsAt_len (zipZ H (List.replicate H.length v) (It.scripts D0 H))
  have q2 := runsAt_len (zipZ b (List.replicate b.length v) (It.scripts D0 b))
  have L2 := pa_L2 (N := N) (hd := H) (runsAt 0 (zipZ H (List.replicate H.length v) (It.scripts D0 H))) (runsAt 0 (zipZ b (List.replicate b.length v) (It.scripts D0 b))) (by omega) (by omega) (by omega)
    (fun y hy => by have := tiles_bound _ 0 none (runs_tiles (zipZ b (List.replicate b.length v) (It.scripts D0 b))) y hy; omega) N 0 (by omega)
  rw [show ((0 : Nat) : Int) = 0 from rfl] at L2
  have e5 : IntKind.i64.wrap (((runsAt 0 (zipZ H (List.replicate H.length v) (It.scripts D0 H))).length : Int) + ((runsAt 0 (zipZ b (List.replicate b.length v) (It.scripts D0 b))).length : Int)) = ((runsAt 0 (zipZ H (List.replicate H.length v) (It.scripts D0 H))).length : Int) + ((runsAt 0 (zipZ b (List.replicate b.length v) (It.scripts D0 b))).length : Int) := w64s (by omega) (by omega)
  rw [e5, L2]
  simp
end Go.Proofs.YtkcmemldhbifdaaDoor

namespace Go.Proofs.YtkcmemldhbifdaaDoor
open Go Go.RowKit
theorem fScripts_true' (x : List Int) : ∃ N, fScripts N x = some true := ⟨2000, fScripts_true (Nat.le_refl _)⟩
theorem fRuns_true' (x y : List Int) : ∃ N, fRuns N x y = some true := ⟨2000, fRuns_true (Nat.le_refl _)⟩
theorem fTiles_true' (x y : List Int) : ∃ N, fTiles N x y = some true := ⟨2000, fTiles_true (Nat.le_refl _)⟩
theorem fParts_true' (x y : List Int) (v : Int) : ∃ N, fParts N x y v = some true := ⟨2000, fParts_true (Nat.le_refl _)⟩
end Go.Proofs.YtkcmemldhbifdaaDoor
