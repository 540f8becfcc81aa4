/-
  Joined.
-/
import Derived.Test.YtkcmemldhbifdaaDoorIA
import Derived.Test.YtkcmemldhbifdaaDoorIt1
import Derived.Test.YtkcmemldhbifdaaDoorP1
namespace Go.Proofs.YtkcmemldhbifdaaDoor
open Go Go.RowKit _root_.It
set_option linter.unusedVariables false
set_option linter.unusedSimpArgs false
section
variable {N : Nat}
def ownP (x : Int) : Int := if scrC x ≠ 1 then scrC x else 0
theorem pOwn_eq (x : Int) : pOwn N x = some (ownP x) := by
  unfold pOwn
  rw [show ucSc N x = some (scrC x) from rfl, Option.bind_some]
  unfold ownP
  split <;> rfl
theorem ownP_own (x : Int) : (ownP x ≠ 0 ↔ It.own D0 x = true) ∧ (It.own D0 x = true → ownP x = scrC x) := by
  have hl : 0 ≤ scrC x := D0.low x
  have e : It.own D0 x = decide (1 < scrC x) := rfl
  rw [e, decide_eq_true_eq]
  unfold ownP
  constructor
  · split <;> omega
  · intro h; rw [if_pos (by omega)]
theorem pFst_L1_eq {u : List Int} (hu : u.length ≤ 100000) : ∀ (f i : Nat), u.length - i < f → i ≤ u.length →
    (pFst_L1 N u f (i : Int)).bind (fun | Ctl.go () => some 0 | Ctl.ret r => some r) = some (fo D0 (u.drop i))
  | 0, i, h, _ => by omega
  | f + 1, i, hf, hi => by
    unfold pFst_L1
    by_cases h : i < u.length
    · have ih := pFst_L1_eq hu f (i + 1) (by omega) (by omega)
      have e : IntKind.i64.wrap ((i : Int) + 1) = ((i + 1 : Nat) : Int) := by rw [w64s (by omega) (by omega)]; omega
      rw [if_pos (by omega), ix_nat (getD_some h), Option.bind_some, pOwn_eq, Option.bind_some, e, getD_drop h, fo]
      obtain ⟨h1, h2⟩ := ownP_own (u.getD i 0)
      by_cases ho : It.own D0 (u.getD i 0) = true
      · rw [if_pos (h1.2 ho), if_pos ho, h2 ho]; rfl
      · rw [if_neg (fun k => ho (h1.1 k)), if_neg ho]; exact ih
    · rw [if_neg (by omega), List.drop_eq_nil_of_le (by omega)]; rfl
theorem pFst_eq {u : List Int} (hu : u.length ≤ 100000) (hN : u.length < N) : pFst N u = some (fo D0 u) := by
  unfold pFst
  have := pFst_L1_eq (N := N) hu N 0 (by omega) (by omega)
  rw [List.drop_zero] at this
  exact this
theorem popK_eq (c : Int) : ∀ st : List (Int × Int), popK c st = It.pop c st
  | [] => rfl
  | (d, s) :: t => by
    unfold popK It.pop
    simp only [popK_eq c t]
theorem kRead_eq (p : Int × List (Int × Int)) (x : Int) : kRead N p x = some (rdS D0 p x) := by
  unfold kRead
  rw [pOwn_eq, Option.bind_some, show ucBr N x = some (bracketS brT x) from rfl, Option.bind_some]
  have hb : D0.brk x = if (bracketS brT x).2.2 = true then some ((bracketS brT x).1, (bracketS brT x).2.1) else none := rfl
  have hp : ptS p (ownP x) = (now D0 p.1 x, p.2) := by
    obtain ⟨h1, h2⟩ := ownP_own x
    unfold ptS now
    by_cases ho : It.own D0 x = true
    · rw [if_pos (h1.2 ho), if_pos ho, h2 ho]; rfl
    · rw [if_neg (fun k => ho (h1.1 k)), if_neg ho]
  rw [hp]
  unfold rdS
  rw [hb]
  obtain ⟨c, o, k⟩ := bracketS brT x
  cases k with
  | false => rfl
  | true =>
    cases o with
    | true =>
      simp only [if_true]
      unfold kPut
      simp only []
      by_cases hl : p.2.length < 64
      · rw [if_pos (by omega), if_pos hl]
      · rw [if_neg (by omega), if_neg hl]
    | false =>
      simp only [if_true, Bool.false_eq_true, if_false]
      unfold kTake
      simp only [popK_eq, Option.bind_some]
      rcases It.pop c p.2 with _ | ⟨s, st'⟩ <;> rfl
theorem pSet_L1_eq {u : List Int} (hu : u.length ≤ 100000) : ∀ (f i : Nat) (out : List Int) (m : Int × List (Int × Int)), u.length - i < f → i ≤ u.length → out.length = u.length →
    pSet_L1 N u f out (i : Int) m = some (out.take i ++ prF D0 m (u.drop i))
  | 0, i, _, _, h, _, _ => by omega
  | f + 1, i, out, m, hf, hi, ho => by
    unfold pSet_L1
    by_cases h : i < u.length
    · have e : IntKind.i64.wrap ((i : Int) + 1) = ((i + 1 : Nat) : Int) := by rw [w64s (by omega) (by omega)]; omega
      rw [if_pos (by omega), ix_nat (getD_some h), Option.bind_some, kRead_eq, Option.bind_some, ix_nat (getD_some (l := out) (i := i) (by omega)), Option.bind_some, setx_nat (by omega), Option.bind_some, e,
        pSet_L1_eq hu f (i + 1) _ _ (by omega) (by omega) (by simpa using ho), getD_drop h, prF]
      congr 1
      rw [List.take_add_one, List.take_set_of_le (by omega)]
      simp [ho, h]
    · rw [if_neg (by omega), List.drop_eq_nil_of_le (by omega), List.take_of_length_le (by omega)]
      simp [prF]
theorem pSet_eq {out u : List Int} (hu : u.length ≤ 100000) (hN : u.length < N) (ho : out.length = u.length) (hp : partB D0 u) : pSet N out u = some (It.scripts D0 u) := by
  unfold pSet
  have := pSet_L1_eq (N := N) hu N 0 out (fo D0 u, []) (by omega) (by omega) ho
  rw [show ((0 : Nat) : Int) = 0 from rfl] at this
  rw [pFst_eq hu hN, Option.bind_some, this, List.take_zero, List.nil_append, List.drop_zero, prF_scripts D0 hp]
def prt : Nat → Nat → List Int → List (Int × Int)
  | _, _, [] => []
  | f, a, x :: t => if D0.sep x = true ∨ t = [] then ((f : Int), ((a + 1 : Nat) : Int)) :: prt (a + 1) (a + 1) t else prt f (a + 1) t
theorem pParts1_L1_eq {l : List Int} (hl : l.length ≤ 100000) : ∀ (k f a : Nat), l.length - a < k → a ≤ l.length → pParts1_L1 N l k (f : Int) (a : Int) = some (prt f a (l.drop a))
  | 0, _, a, h, _ => by omega
  | k + 1, f, a, hk, ha => by
    unfold pParts1_L1
    by_cases h : a < l.length
    · have e : IntKind.i64.wrap ((a : Int) + 1) = ((a + 1 : Nat) : Int) := by rw [w64s (by omega) (by omega)]; omega
      have hd : (l.drop (a + 1) = []) ↔ ¬ a + 1 < l.length := by rw [List.drop_eq_nil_iff]; omega
      have hs : D0.sep (l.getD a 0) = decide (claC (l.getD a 0) = 11) := rfl
      rw [if_pos (by omega), ix_nat (getD_some h), Option.bind_some, show ucCl N (l.getD a 0) = some (claC (l.getD a 0)) from rfl, Option.bind_some, e, getD_drop h, prt]
      have i1 := pParts1_L1_eq hl k f (a + 1) (by omega) (by omega)
      have i2 := pParts1_L1_eq hl k (a + 1) (a + 1) (by omega) (by omega)
      rw [i1, i2, Option.map_some]
      by_cases h1 : claC (l.getD a 0) = 11
      · rw [if_neg (fun k => k h1), if_pos (Or.inl (by rw [hs, decide_eq_true h1]))]
      · rw [if_pos h1]
        have hs1 : ¬ D0.sep (l.getD a 0) = true := by rw [hs, decide_eq_false h1]; decide
        by_cases h2 : a + 1 < l.length
        · rw [if_pos (by omega), if_neg (by rintro (k | k); exact hs1 k; exact hd.1 k h2)]
        · rw [if_neg (by omega), if_pos (Or.inr (hd.2 h2))]
    · rw [if_neg (by omega), List.drop_eq_nil_of_le (by omega)]; rfl
theorem pParts1_eq {l : List Int} (hl : l.length ≤ 100000) (hN : l.length < N) : pParts1 N l = some (prt 0 0 l) := by
  unfold pParts1
  have := pParts1_L1_eq (N := N) hl N 0 0 (by omega) (by omega)
  rw [List.drop_zero] at this
  exact this
theorem scripts_sep {x : Int} {t : List Int} (hx : D0.sep x = true ∨ t = []) (a : List Int) : It.scripts D0 (a ++ x :: t) = It.scripts D0 (a ++ [x]) ++ It.scripts D0 t := by
  rcases hx with hx | rfl
  · exact It.scripts_parts D0 hx a t
  · show _ = _ ++ []; rw [List.append_nil]
theorem cut_mid {a b c : List Int} {f t : Nat} (hf : a.length = f) (ht : f + b.length = t) : cutx (a ++ b ++ c) (f : Int) (t : Int) = some b := by
  subst hf; subst ht
  unfold cutx
  rw [if_pos ⟨by omega, by omega, by simp; omega⟩]
  simp only [Int.toNat_natCast]
  rw [List.take_append_of_le_length (by simp), List.take_of_length_le (by simp), List.drop_left]
theorem pScripts_X1_eq {l : List Int} (hl : l.length ≤ 100000) (hN : l.length < N) : ∀ (u pre cur A R : List Int), l = pre ++ cur ++ u → (u = [] → cur = []) → (∀ y ∈ cur, D0.sep y = false) → A.length = pre.length → R.length = (cur ++ u).length →
    pScripts_X1 N l (prt pre.length (pre.length + cur.length) u) (A ++ R) = some (A ++ It.scripts D0 (cur ++ u))
  | [], pre, cur, A, R, h, hc, _, hA, hR => by
    obtain rfl := hc rfl
    have : R = [] := List.length_eq_zero_iff.1 (by simpa using hR)
    subst this
    rfl
  | x :: t, pre, cur, A, R, h, hc, hs, hA, hR => by
    unfold prt
    by_cases hx : D0.sep x = true ∨ t = []
    · rw [if_pos hx, scripts_sep hx]
      have hR2 : R = R.take (cur.length + 1) ++ R.drop (cur.length + 1) := (List.take_append_drop _ _).symm
      have hRl : (R.take (cur.length + 1)).length = cur.length + 1 := by rw [List.length_take, hR, List.length_append, List.length_cons]; omega
      have c1 : cutx (A ++ R) (pre.length : Int) ((pre.length + cur.length + 1 : Nat) : Int) = some (R.take (cur.length + 1)) := by
        conv => lhs; rw [hR2, ← List.append_assoc]
        exact cut_mid hA (by rw [hRl]; omega)
      have c2 : cutx l (pre.length : Int) ((pre.length + cur.length + 1 : Nat) : Int) = some (cur ++ [x]) := by
        rw [h, show pre ++ cur ++ x :: t = pre ++ (cur ++ [x]) ++ t by simp]
        exact cut_mid rfl (by simp; omega)
      have hlen : (cur ++ [x]).length ≤ l.length := by rw [h]; simp; omega
      have hset := pSet_eq (N := N) (out := R.take (cur.length + 1)) (u := cur ++ [x]) (by omega) (by omega) (by rw [hRl]; simp) (partB_snoc D0 hs)
      have hsl : (It.scripts D0 (cur ++ [x])).length = cur.length + 1 := by rw [show (It.scripts D0 (cur ++ [x])).length = (cur ++ [x]).length from scF_len D0 _ _ _]; simp
      have ih := pScripts_X1_eq hl hN t (pre ++ (cur ++ [x])) [] (A ++ It.scripts D0 (cur ++ [x])) (R.drop (cur.length + 1)) (by rw [h]; simp) (fun _ => rfl) (fun y hy => by cases hy) (by rw [List.length_append, hsl, hA]; simp) (by rw [List.length_drop, hR]; simp; omega)
      have e1 : (pre ++ (cur ++ [x])).length = pre.length + cur.length + 1 := by simp; omega
      rw [e1, List.length_nil, Nat.add_zero, List.nil_append] at ih
      unfold pScripts_X1
      rw [c1, Option.bind_some, c2, Option.bind_some, hset, Option.bind_some]
      have hp : putx (A ++ R) (pre.length : Int) ((pre.length + cur.length + 1 : Nat) : Int) (It.scripts D0 (cur ++ [x])) = some (A ++ It.scripts D0 (cur ++ [x]) ++ R.drop (cur.length + 1)) := by
        unfold putx
        simp only [Int.toNat_natCast]
        rw [List.take_append_of_le_length (by omega), List.take_of_length_le (by omega), List.drop_append, List.drop_eq_nil_of_le (by omega), List.nil_append, show pre.length + cur.length + 1 - A.length = cur.length + 1 by omega]
      rw [hp, Option.bind_some, ih, List.append_assoc]
    · rw [if_neg hx]
      have h1 : D0.sep x = false := by cases h : D0.sep x with | false => rfl | true => exact absurd (Or.inl h) hx
      have ih := pScripts_X1_eq hl hN t pre (cur ++ [x]) A R (by rw [h]; simp) (fun e => absurd (Or.inr e) hx) (by intro y hy; rcases List.mem_append.1 hy with hy | hy; exact hs y hy; rw [List.mem_singleton.1 hy]; exact h1) hA (by rw [hR]; simp)
      rw [show pre.length + (cur ++ [x]).length = pre.length + cur.length + 1 by simp; omega] at ih
      rw [ih]
      simp
theorem pScripts_eq {l : List Int} (hN : l.length + 100 < N) (hl : l.length ≤ 100000) : pScripts N l = some (It.scripts D0 l) := by
  unfold pScripts
  have em : mkx (l.length : Int) = some (List.replicate l.length 0) := by unfold mkx; rw [if_pos ⟨by omega, by omega⟩]; simp
  have h := pScripts_X1_eq (N := N) hl (by omega) l [] [] [] (List.replicate l.length 0) rfl (fun _ => rfl) (fun y hy => by cases hy) rfl (by simp)
  simp only [List.nil_append, List.length_nil, Nat.zero_add] at h
  rw [em, Option.bind_some, pParts1_eq hl (by omega), Option.bind_some, h, Option.bind_some]
end
end Go.Proofs.YtkcmemldhbifdaaDoor

namespace Go.Proofs.YtkcmemldhbifdaaDoor
open Go Go.RowKit _root_.It
set_option linter.unusedVariables false
set_option linter.unusedSimpArgs false
section
variable {N : Nat} {l lv sc : List Int}
theorem last_set {pre : List Rn} (hpre : pre.length ≤ 200000) (u u' : Rn) : IntKind.i64.wrap (((pre ++ [u]).length : Int) - 1) = ((pre ++ [u]).length : Int) - 1 := by
  rw [List.length_append, List.length_singleton]; exact w64s (by omega) (by omega)
theorem pRuns_L2_eq (hl : l.length ≤ 100000) (h1 : lv.length = l.length) (h2 : sc.length = l.length) {f t : Nat} (ht : t ≤ l.length) (hs : ∀ j, f ≤ j → j + 1 < t → D0.sep (l.getD j 0) = false) :
    ∀ (k i : Nat) (pre : List Rn) (f0 : Int), t - i < k → f < i → i ≤ t → pre.length < i →
      ∃ pre' f1, pre'.length < t ∧ pRuns_L2 N lv sc (f : Int) (t : Int) k (pre ++ [(f0, (i : Int), lv.getD (i - 1) 0, sc.getD (i - 1) 0)]) (i : Int) = some (pre' ++ [(f1, (t : Int), lv.getD (t - 1) 0, sc.getD (t - 1) 0)]) ∧
        pre ++ rnF f0 i (lv.getD (i - 1) 0) (sc.getD (i - 1) 0) (D0.sep (l.getD (i - 1) 0)) ((zipZ l lv sc).drop i) = pre' ++ rnF f1 t (lv.getD (t - 1) 0) (sc.getD (t - 1) 0) (D0.sep (l.getD (t - 1) 0)) ((zipZ l lv sc).drop t)
  | 0, i, pre, f0, h, _, _, _ => by omega
  | k + 1, i, pre, f0, hk, hf, hi, hp => by
    by_cases h : i < t
    · have hw : IntKind.i64.wrap ((i : Int) + 1) = ((i + 1 : Nat) : Int) := by rw [w64s (by omega) (by omega)]; omega
      have hw2 : IntKind.i64.wrap ((i : Int) - 1) = ((i - 1 : Nat) : Int) := by rw [w64s (by omega) (by omega)]; omega
      have hv := getD_some (l := lv) (i := i) (by omega)
      have hsx := getD_some (l := sc) (i := i) (by omega)
      have hv1 := getD_some (l := lv) (i := i - 1) (by omega)
      have hs1 := getD_some (l := sc) (i := i - 1) (by omega)
      have hsep : D0.sep (l.getD (i - 1) 0) = false := hs (i - 1) (by omega) (by omega)
      have ihm := fun f0 => pRuns_L2_eq hl h1 h2 ht hs k (i + 1) pre f0 (by omega) (by omega) h (by omega)
      have ihn := fun f1 u => pRuns_L2_eq hl h1 h2 ht hs k (i + 1) (pre ++ [(u : Rn)]) f1 (by omega) (by omega) h (by simp; omega)
      rw [Nat.add_sub_cancel] at ihm ihn
      have wl : ∀ (q : List Rn) (u : Rn), q.length ≤ 200000 → IntKind.i64.wrap (((q ++ [u]).length : Int) - 1) = ((q ++ [u]).length : Int) - 1 := fun q u hq => last_set hq u u
      rw [zipZ_at h1 h2 (by omega), rnF, hsep]
      unfold pRuns_L2
      have hne : ¬ ((i : Int) = (f : Int)) := by omega
      rw [if_pos (by omega), if_neg hne]
      simp only [hw2, ix_nat hv, ix_nat hv1, ix_nat hsx, ix_nat hs1, Option.bind_some]
      revert ihm ihn
      generalize lv.getD i 0 = v1
      generalize sc.getD i 0 = s1
      generalize lv.getD (i - 1) 0 = v
      generalize sc.getD (i - 1) 0 = s
      intro ihm ihn
      have hnew : ∀ X : Option (List Rn), X = (apg (pre ++ [((f0, (i : Int), v, s) : Rn)]) ([((i : Int), 0, v1, s1)] : List Rn)) → ∃ pre' f1, pre'.length < t ∧
          (X.bind fun l123 => ((ixg l123 (IntKind.i64.wrap (((l123.length : Nat) : Int) - 1))).bind fun x176 => ((setg l123 (IntKind.i64.wrap (((l123.length : Nat) : Int) - 1)) (x176.1, (IntKind.i64.wrap ((i : Int) + 1)), x176.2.2.1, x176.2.2.2)).bind fun l197 => pRuns_L2 N lv sc (f : Int) (t : Int) k l197 (IntKind.i64.wrap ((i : Int) + 1))))) = some (pre' ++ [(f1, (t : Int), lv.getD (t - 1) 0, sc.getD (t - 1) 0)]) ∧
          pre ++ ((f0, (i : Int), v, s) :: rnF (i : Int) ((i : Int) + 1) v1 s1 (D0.sep (l.getD i 0)) ((zipZ l lv sc).drop (i + 1))) = pre' ++ rnF f1 t (lv.getD (t - 1) 0) (sc.getD (t - 1) 0) (D0.sep (l.getD (t - 1) 0)) ((zipZ l lv sc).drop t) := by
        rintro X rfl
        obtain ⟨pre', f1, k1, k2, k3⟩ := ihn (i : Int) (f0, (i : Int), v, s)
        refine ⟨pre', f1, k1, ?_, ?_⟩
        · rw [apg_ok (by simp; omega), Option.bind_some, wl _ _ (by simp; omega), ixgR_last, Option.bind_some, setgR_last, Option.bind_some, hw]
          exact k2
        · rw [← k3, List.append_assoc, show ((i + 1 : Nat) : Int) = (i : Int) + 1 by omega]; rfl
      by_cases e1 : v1 = v
      · by_cases e2 : s1 = s
        · subst e1; subst e2
          obtain ⟨pre', f1, k1, k2, k3⟩ := ihm f0
          refine ⟨pre', f1, k1, ?_, ?_⟩
          · simp only [ne_eq, not_true_eq_false, if_false, Option.bind_some]
            rw [wl _ _ (by omega), ixgR_last, Option.bind_some, setgR_last, Option.bind_some, hw]
            exact k2
          · simp only [beq_self_eq_true, Bool.not_false, Bool.and_true, if_true]
            rw [← k3, show ((i + 1 : Nat) : Int) = (i : Int) + 1 by omega]
        · subst e1
          simp only [ne_eq, not_true_eq_false, if_false, e2, not_false_eq_true, if_true, Option.bind_some, beq_self_eq_true, beq_false_of_ne (Ne.symm e2), Bool.and_false, Bool.false_and, Bool.false_eq_true]
          refine hnew _ ?_
          cases apg (pre ++ [((f0, (i : Int), v1, s) : Rn)]) ([((i : Int), 0, v1, s1)] : List Rn) <;> rfl
      · simp only [ne_eq, e1, not_false_eq_true, if_true, Option.bind_some, beq_false_of_ne (Ne.symm e1), Bool.false_and, Bool.false_eq_true, if_false]
        refine hnew _ ?_
        cases apg (pre ++ [((f0, (i : Int), v, s) : Rn)]) ([((i : Int), 0, v1, s1)] : List Rn) <;> rfl
    · obtain rfl : i = t := by omega
      refine ⟨pre, f0, hp, ?_, rfl⟩
      unfold pRuns_L2
      rw [if_neg (by omega)]
def rnsF (l lv sc : List Int) (f : Nat) : List Rn := runsAt f ((zipZ l lv sc).drop f)
theorem pRuns_part (hl : l.length ≤ 100000) (h1 : lv.length = l.length) (h2 : sc.length = l.length) (hN : l.length < N) {f t : Nat} (hft : f < t) (ht : t ≤ l.length) (hs : ∀ j, f ≤ j → j + 1 < t → D0.sep (l.getD j 0) = false) (he : D0.sep (l.getD (t - 1) 0) = true ∨ t = l.length)
    (out : List Rn) (ho : out.length ≤ f) : ∃ out', out'.length ≤ t ∧ pRuns_L2 N lv sc (f : Int) (t : Int) N out (f : Int) = some out' ∧ out ++ rnsF l lv sc f = out' ++ rnsF l lv sc t := by
  obtain ⟨k, rfl⟩ : ∃ k, N = k + 1 := ⟨N - 1, by omega⟩
  have hw : IntKind.i64.wrap ((f : Int) + 1) = ((f + 1 : Nat) : Int) := by rw [w64s (by omega) (by omega)]; omega
  have hv := getD_some (l := lv) (i := f) (by omega)
  have hsx := getD_some (l := sc) (i := f) (by omega)
  obtain ⟨pre', f1, k1, k2, k3⟩ := pRuns_L2_eq (N := k + 1) hl h1 h2 ht hs k (f + 1) out (f : Int) (by omega) (by omega) hft (by omega)
  rw [Nat.add_sub_cancel] at k2 k3
  refine ⟨pre' ++ [(f1, (t : Int), lv.getD (t - 1) 0, sc.getD (t - 1) 0)], by simp; omega, ?_, ?_⟩
  · unfold pRuns_L2
    rw [if_pos (by omega), if_pos rfl]
    simp only [Option.bind_some, ix_nat hv, ix_nat hsx]
    rw [apg_ok (by simp; omega)]
    simp only [Option.bind_some]
    rw [last_set (by omega) _ (0, 0, 0, 0), ixgR_last, Option.bind_some, setgR_last, Option.bind_some, hw]
    exact k2
  · have e1 : rnsF l lv sc f = rnF (f : Int) ((f + 1 : Nat) : Int) (lv.getD f 0) (sc.getD f 0) (D0.sep (l.getD f 0)) ((zipZ l lv sc).drop (f + 1)) := by
      unfold rnsF
      rw [zipZ_at h1 h2 (by omega), runsAt, show ((f + 1 : Nat) : Int) = (f : Int) + 1 by omega]
    rw [e1, k3, List.append_assoc]
    congr 1
    unfold rnsF
    cases hz : (zipZ l lv sc).drop t with
    | nil => rfl
    | cons z T =>
      have htl : t < l.length := by
        rcases Nat.lt_or_ge t l.length with h | h
        · exact h
        · rw [← zipZ_drop, List.drop_eq_nil_of_le h] at hz; cases hz
      have hsep : D0.sep (l.getD (t - 1) 0) = true := by rcases he with h | h; exact h; omega
      obtain ⟨v', s', b'⟩ := z
      rw [hsep, rnF, runsAt]
      simp
theorem pRuns_X1_eq (hl : l.length ≤ 100000) (h1 : lv.length = l.length) (h2 : sc.length = l.length) (hN : l.length < N) : ∀ (u pre cur : List Int) (out : List Rn), l = pre ++ cur ++ u → (u = [] → cur = []) → (∀ y ∈ cur, D0.sep y = false) → out.length ≤ pre.length →
    pRuns_X1 N lv sc (prt pre.length (pre.length + cur.length) u) out = some (out ++ rnsF l lv sc pre.length)
  | [], pre, cur, out, h, hc, _, _ => by
    obtain rfl := hc rfl
    have : rnsF l lv sc pre.length = [] := by
      unfold rnsF
      rw [← zipZ_drop, List.drop_eq_nil_of_le (by rw [h]; simp)]
      rfl
    rw [this, List.append_nil]
    rfl
  | x :: t, pre, cur, out, h, hc, hs, ho => by
    have hg : ∀ j, j < cur.length → l.getD (pre.length + j) 0 = cur.getD j 0 := by
      intro j hj
      rw [h, List.getD_eq_getElem?_getD, List.getD_eq_getElem?_getD, List.append_assoc, List.getElem?_append_right (by omega), Nat.add_sub_cancel_left, List.getElem?_append_left hj]
    have hgx : l.getD (pre.length + cur.length) 0 = x := by
      rw [h, List.getD_eq_getElem?_getD, List.getElem?_append_right (by simp), List.length_append, Nat.sub_self]; rfl
    have hll : l.length = pre.length + cur.length + (t.length + 1) := by rw [h]; simp; omega
    unfold prt
    by_cases hx : D0.sep x = true ∨ t = []
    · rw [if_pos hx]
      have e1 : (pre ++ (cur ++ [x])).length = pre.length + cur.length + 1 := by simp; omega
      obtain ⟨out', p1, p2, p3⟩ := pRuns_part (N := N) hl h1 h2 hN (f := pre.length) (t := pre.length + cur.length + 1) (by omega) (by omega)
        (fun j j1 j2 => by
          have := hg (j - pre.length) (by omega)
          rw [show pre.length + (j - pre.length) = j by omega] at this
          rw [this]
          refine hs _ ?_
          rw [List.getD_eq_getElem?_getD, List.getElem?_eq_getElem (by omega)]
          exact List.getElem_mem _)
        (by rw [Nat.add_sub_cancel, hgx]; rcases hx with hx | rfl; exact .inl hx; exact .inr (by simp at hll; omega)) out ho
      have ih := pRuns_X1_eq hl h1 h2 hN t (pre ++ (cur ++ [x])) [] out' (by rw [h]; simp) (fun _ => rfl) (fun y hy => by cases hy) (by rw [e1]; omega)
      rw [e1, List.length_nil, Nat.add_zero] at ih
      unfold pRuns_X1
      rw [p2, Option.bind_some, ih, p3]
    · rw [if_neg hx]
      have hx1 : D0.sep x = false := by cases h : D0.sep x with | false => rfl | true => exact absurd (Or.inl h) hx
      have ih := pRuns_X1_eq hl h1 h2 hN t pre (cur ++ [x]) out (by rw [h]; simp) (fun e => absurd (Or.inr e) hx) (by intro y hy; rcases List.mem_append.1 hy with hy | hy; exact hs y hy; rw [List.mem_singleton.1 hy]; exact hx1) ho
      rw [show pre.length + (cur ++ [x]).length = pre.length + cur.length + 1 by simp; omega] at ih
      exact ih
theorem pRuns_eq (hN : l.length + 100 < N) (hl : l.length ≤ 65536) (h1 : lv.length = l.length) : pRuns N l lv = some (runsAt 0 (zipZ l lv (It.scripts D0 l)), 0) := by
  have hsl : (It.scripts D0 l).length = l.length := scF_len D0 l 0 []
  have h := pRuns_X1_eq (N := N) (sc := It.scripts D0 l) (by omega) h1 hsl (by omega) l [] [] [] rfl (fun _ => rfl) (fun y hy => by cases hy) (by simp)
  simp only [List.nil_append, List.length_nil, Nat.zero_add] at h
  unfold pRuns
  rw [if_neg (by omega), if_neg (by omega), pScripts_eq hN (by omega), Option.bind_some, pParts1_eq (by omega) (by omega), Option.bind_some, h]
  rfl
theorem pRuns_arg (hl : l.length ≤ 65536) (h1 : lv.length ≠ l.length) : pRuns N l lv = some ([], 2) := by
  unfold pRuns
  rw [if_neg (by omega), if_pos (by omega)]
theorem pRuns_long (hl : 65536 < l.length) : pRuns N l lv = some ([], 3) := by
  unfold pRuns
  rw [if_pos (by omega)]
end
end Go.Proofs.YtkcmemldhbifdaaDoor
