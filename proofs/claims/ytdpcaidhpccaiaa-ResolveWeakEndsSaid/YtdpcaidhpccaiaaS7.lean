/-
  ResolveWeakPassed, ResolvePassed, ResolveWeakAgain are true, by lists: BN are passed over; what is resolved stays.
-/
import Derived.Test.YtdpcaidhpccaiaaS6
import Derived.Test.YtdpcaidhpccaiaaFWeakPassed
import Derived.Test.YtdpcaidhpccaiaaFPassed
import Derived.Test.YtdpcaidhpccaiaaFWeakAgain
namespace Go.Proofs.Ytdpcaidhpccaiaa
open Go Go.RowKit
set_option linter.unusedVariables false
set_option linter.unusedSectionVars false
set_option linter.unusedSimpArgs false

/-! ### BN put in -/
def cntB (n : Nat) (at_ : List Int) (i : Nat) : Nat := (at_.filter fun x => decide (Int.tmod (IntKind.i64.wrap x) (IntKind.i64.wrap ((n : Int) + 1)) = (i : Int))).length
def insB (cnt : Nat → Nat) : Nat → List Int → List Int
  | i, [] => List.replicate (cnt i) 10
  | i, c :: r => List.replicate (cnt i) 10 ++ c :: insB cnt (i + 1) r
theorem cntB_le (n : Nat) (at_ : List Int) (i : Nat) : cntB n at_ i ≤ at_.length := List.length_filter_le ..
theorem insB_le (cnt : Nat → Nat) (m : Nat) (h : ∀ i, cnt i ≤ m) : ∀ (l : List Int) (i : Nat), (insB cnt i l).length ≤ (l.length + 1) * m + l.length
  | [], i => by
    have := h i
    rw [insB, List.length_replicate, List.length_nil]
    omega
  | c :: r, i => by
    have h1 := h i
    have h2 := insB_le cnt m h r (i + 1)
    rw [insB, List.length_append, List.length_replicate, List.length_cons, List.length_cons]
    have : (r.length + 1 + 1) * m = (r.length + 1) * m + m := by rw [Nat.add_mul (r.length + 1) 1 m, Nat.one_mul]
    omega
theorem insB_len (cnt : Nat → Nat) : ∀ (l m : List Int) (i : Nat), l.length = m.length → (insB cnt i l).length = (insB cnt i m).length
  | [], [], i, _ => rfl
  | [], _ :: _, _, h => by simp at h
  | _ :: _, [], _, h => by simp at h
  | c :: r, d :: s, i, h => by
    rw [insB, insB, List.length_append, List.length_append, List.length_cons, List.length_cons, insB_len cnt r s (i + 1) (by simpa using h)]
theorem noBN_rep (n : Nat) (l : List Int) : noBN (List.replicate n 10 ++ l) = noBN l := by
  unfold noBN
  rw [List.filter_append, List.filter_eq_nil_iff.mpr (by intro x hx; rw [(List.mem_replicate.mp hx).2]; decide), List.nil_append]
theorem noBN_ins (cnt : Nat → Nat) : ∀ (l : List Int) (i : Nat), noBN (insB cnt i l) = noBN l
  | [], i => by
    have := noBN_rep (cnt i) []
    rw [List.append_nil] at this
    rw [insB, this]
  | c :: r, i => by
    rw [insB, noBN_rep]
    have := noBN_ins cnt r (i + 1)
    unfold noBN at this ⊢
    rw [List.filter_cons, List.filter_cons, this]
theorem mergeB_rep (n : Nat) (l row : List Int) : mergeB (List.replicate n 10 ++ l) row = List.replicate n 10 ++ mergeB l row := by
  induction n with
  | zero => rfl
  | succ n ih => rw [List.replicate_succ, List.cons_append, mergeB_bn, ih, List.cons_append]
theorem mergeB_ins (cnt : Nat → Nat) : ∀ (l row : List Int) (i : Nat), row.length = (noBN l).length → mergeB (insB cnt i l) row = insB cnt i (mergeB l row)
  | [], row, i, _ => by
    have := mergeB_rep (cnt i) [] row
    rw [List.append_nil] at this
    rw [insB, this]
    show _ ++ [] = List.replicate (cnt i) 10
    rw [List.append_nil]
  | c :: r, row, i, h => by
    rw [insB, mergeB_rep]
    by_cases hc : c = 10
    · subst hc
      rw [mergeB_bn, mergeB_bn, insB, mergeB_ins cnt r row (i + 1) (by rw [h]; rfl)]
    · have e : noBN (c :: r) = c :: noBN r := by unfold noBN; rw [List.filter_cons, if_pos (by simpa using hc)]
      rw [e] at h
      cases row with
      | nil => simp at h
      | cons x row =>
        rw [mergeB_no hc, mergeB_no hc, insB, mergeB_ins cnt r row (i + 1) (by simpa using h)]
theorem weakS_ins (cnt : Nat → Nat) (l : List Int) (s : Int) : weakS (insB cnt 0 l) s = insB cnt 0 (weakS l s) := by
  unfold weakS
  rw [noBN_ins, mergeB_ins _ _ _ _ (rowW_len _ _)]
theorem neutralS_ins (cnt : Nat → Nat) (l : List Int) (v s e : Int) : neutralS (insB cnt 0 l) v s e = insB cnt 0 (neutralS l v s e) := by
  unfold neutralS
  rw [noBN_ins, mergeB_ins _ _ _ _ (nS_len _ _ _ _)]
theorem drop_c {l : List Int} {i : Nat} (h : i < l.length) : l.drop i = l.getD i 0 :: l.drop (i + 1) := drop_e h

theorem fWeakPassed_L2_eq (N : Nat) (p0 p2 : List Int) (hp : p0.length ≤ 1500) (hl : p2.length ≤ 100) (x : Nat) : ∀ (k i : Nat) (a b : List Int), p2.length - i < k → i ≤ p2.length → a.length + (p2.length - i) ≤ 400000000 → b.length + (p2.length - i) ≤ 400000000 →
    fWeakPassed_L2 N p0 p2 (x : Int) k a b (i : Int) = some (a ++ List.replicate (cntB p0.length (p2.drop i) x) 10, b ++ List.replicate (cntB p0.length (p2.drop i) x) 10)
  | 0, _, _, _, h, _, _, _ => absurd h (Nat.not_lt_zero _)
  | k + 1, i, a, b, hk, hi, ha, hb => by
    unfold fWeakPassed_L2
    by_cases h : i < p2.length
    · rw [if_pos (by omega), ixe h, Option.bind_some, if_neg (by rw [w64e (by omega) (by omega)]; omega), drop_e h, wne i (by omega)]
      unfold cntB
      rw [List.filter_cons]
      by_cases q : Int.tmod (IntKind.i64.wrap (p2.getD i 0)) (IntKind.i64.wrap ((p0.length : Int) + 1)) = (x : Int)
      · rw [if_pos q, if_pos (decide_eq_true q), apx_to a _ (by simp; omega), Option.bind_some, apx_to b _ (by simp; omega), Option.bind_some]
        have hc : ∀ (z : List Int) (n : Nat), z ++ [10] ++ List.replicate n (10 : Int) = z ++ List.replicate (n + 1) 10 := fun z n => by rw [List.replicate_succ, List.append_assoc]; rfl
        rw [fWeakPassed_L2_eq N p0 p2 hp hl x k (i + 1) _ _ (by omega) (by omega) (by simp; omega) (by simp; omega), hc, hc]
        rfl
      · rw [if_neg q, if_neg (by simpa using q), fWeakPassed_L2_eq N p0 p2 hp hl x k (i + 1) a b (by omega) (by omega) (by omega) (by omega)]
        rfl
    · rw [if_neg (by omega), List.drop_eq_nil_of_le (by omega)]
      simp [cntB]

theorem fWeakPassed_L1_eq (N : Nat) (hN : 10000 ≤ N) (p0 p2 w : List Int) (hp : p0.length ≤ 1500) (hw : w.length = p0.length) (hl : p2.length ≤ 100) : ∀ (k i : Nat) (a b : List Int), p0.length - i + 1 < k → i ≤ p0.length → a.length ≤ i * 101 → b.length ≤ i * 101 →
    fWeakPassed_L1 N p0 p2 w k a b (i : Int) = some (a ++ insB (cntB p0.length p2) i (p0.drop i), b ++ insB (cntB p0.length p2) i (w.drop i))
  | 0, _, _, _, h, _, _, _ => absurd h (Nat.not_lt_zero _)
  | k + 1, i, a, b, hk, hi, ha, hb => by
    unfold fWeakPassed_L1
    have hcl := cntB_le p0.length p2 i
    have h2 := fWeakPassed_L2_eq N p0 p2 hp hl i N 0 a b (by omega) (Nat.zero_le _) (by omega) (by omega)
    rw [List.drop_zero, show ((0 : Nat) : Int) = 0 from rfl] at h2
    rw [if_pos (by omega), h2, Option.bind_some]
    simp only
    by_cases h : i < p0.length
    · rw [if_pos (by omega), ixe h, Option.bind_some, apx_to _ _ (by simp; omega), Option.bind_some, ixe (by omega), Option.bind_some, apx_to _ _ (by simp; omega), Option.bind_some, Option.bind_some, wne i (by omega), drop_e h, drop_e (show i < w.length by omega), insB, insB]
      simp only
      rw [fWeakPassed_L1_eq N hN p0 p2 w hp hw hl k (i + 1) _ _ (by omega) (by omega) (by simp; omega) (by simp; omega)]
      simp only [List.append_assoc, List.cons_append, List.nil_append]
    · obtain rfl : i = p0.length := by omega
      rw [if_neg (by omega), Option.bind_some, wne _ (by omega), List.drop_eq_nil_of_le (Nat.le_refl _), List.drop_eq_nil_of_le (show w.length ≤ p0.length by omega), insB]
      simp only
      cases k with
      | zero => omega
      | succ k =>
        unfold fWeakPassed_L1
        rw [if_neg (by omega)]

theorem fWeakPassed_N (N : Nat) (hN : 10000 ≤ N) (N2 : 400000 ≤ N) (l : List Int) (s : Int) (at_ : List Int) : fWeakPassed N l s at_ = some true := by
  unfold fWeakPassed
  by_cases h : 1500 < l.length
  · rw [if_pos (by omega), kArabic_eq N (by omega)]
    rfl
  rw [if_neg (by omega)]
  by_cases h2 : 100 < at_.length
  · rw [if_pos (by omega), kArabic_eq N (by omega)]
    rfl
  rw [if_neg (by omega)]
  simp only [Option.bind_some]
  rw [pWeak_eq N l s  (by omega) (by omega), Option.bind_some, if_neg (by rw [weakS_len]; omega)]
  have h1 := fWeakPassed_L1_eq N hN l at_ (weakS l s) (by omega) (weakS_len ..) (by omega) N 0 [] [] (by omega) (Nat.zero_le _) (Nat.le_refl _) (Nat.le_refl _)
  rw [List.drop_zero, List.drop_zero, List.nil_append, List.nil_append, show ((0 : Nat) : Int) = 0 from rfl] at h1
  rw [h1, Option.bind_some]
  simp only
  have hb := insB_le (cntB l.length at_) 100 (fun i => by have := cntB_le l.length at_ i; omega) l 0
  have hb2 : (insB (cntB l.length at_) 0 (weakS l s)).length = (insB (cntB l.length at_) 0 l).length := insB_len _ _ _ _ (weakS_len ..)
  rw [pWeak_eq N _ s  (by omega) (by omega), Option.bind_some, weakS_ins, kIs_self N _ (by omega) (by omega), Option.bind_some]
  simp only
  rw [kArabic_eq N (by omega)]
  rfl
theorem fWeakPassed_true (l : List Int) (s : Int) (at_ : List Int) : ∃ N, fWeakPassed N l s at_ = some true := ⟨400000, fWeakPassed_N 400000 (by decide) (Nat.le_refl _) l s at_⟩

theorem fPassed_L2_eq (N : Nat) (p0 p2 : List Int) (hp : p0.length ≤ 1500) (hl : p2.length ≤ 100) (x : Nat) : ∀ (k i : Nat) (a b : List Int), p2.length - i < k → i ≤ p2.length → a.length + (p2.length - i) ≤ 400000000 → b.length + (p2.length - i) ≤ 400000000 →
    fPassed_L2 N p0 p2 (x : Int) k a b (i : Int) = some (a ++ List.replicate (cntB p0.length (p2.drop i) x) 10, b ++ List.replicate (cntB p0.length (p2.drop i) x) 10)
  | 0, _, _, _, h, _, _, _ => absurd h (Nat.not_lt_zero _)
  | k + 1, i, a, b, hk, hi, ha, hb => by
    unfold fPassed_L2
    by_cases h : i < p2.length
    · rw [if_pos (by omega), ixe h, Option.bind_some, if_neg (by rw [w64e (by omega) (by omega)]; omega), drop_e h, wne i (by omega)]
      unfold cntB
      rw [List.filter_cons]
      by_cases q : Int.tmod (IntKind.i64.wrap (p2.getD i 0)) (IntKind.i64.wrap ((p0.length : Int) + 1)) = (x : Int)
      · rw [if_pos q, if_pos (decide_eq_true q), apx_to a _ (by simp; omega), Option.bind_some, apx_to b _ (by simp; omega), Option.bind_some]
        have hc : ∀ (z : List Int) (n : Nat), z ++ [10] ++ List.replicate n (10 : Int) = z ++ List.replicate (n + 1) 10 := fun z n => by rw [List.replicate_succ, List.append_assoc]; rfl
        rw [fPassed_L2_eq N p0 p2 hp hl x k (i + 1) _ _ (by omega) (by omega) (by simp; omega) (by simp; omega), hc, hc]
        rfl
      · rw [if_neg q, if_neg (by simpa using q), fPassed_L2_eq N p0 p2 hp hl x k (i + 1) a b (by omega) (by omega) (by omega) (by omega)]
        rfl
    · rw [if_neg (by omega), List.drop_eq_nil_of_le (by omega)]
      simp [cntB]

theorem fPassed_L1_eq (N : Nat) (hN : 10000 ≤ N) (p0 p2 w : List Int) (hp : p0.length ≤ 1500) (hw : w.length = p0.length) (hl : p2.length ≤ 100) : ∀ (k i : Nat) (a b : List Int), p0.length - i + 1 < k → i ≤ p0.length → a.length ≤ i * 101 → b.length ≤ i * 101 →
    fPassed_L1 N p0 p2 w k a b (i : Int) = some (a ++ insB (cntB p0.length p2) i (p0.drop i), b ++ insB (cntB p0.length p2) i (w.drop i))
  | 0, _, _, _, h, _, _, _ => absurd h (Nat.not_lt_zero _)
  | k + 1, i, a, b, hk, hi, ha, hb => by
    unfold fPassed_L1
    have hcl := cntB_le p0.length p2 i
    have h2 := fPassed_L2_eq N p0 p2 hp hl i N 0 a b (by omega) (Nat.zero_le _) (by omega) (by omega)
    rw [List.drop_zero, show ((0 : Nat) : Int) = 0 from rfl] at h2
    rw [if_pos (by omega), h2, Option.bind_some]
    simp only
    by_cases h : i < p0.length
    · rw [if_pos (by omega), ixe h, Option.bind_some, apx_to _ _ (by simp; omega), Option.bind_some, ixe (by omega), Option.bind_some, apx_to _ _ (by simp; omega), Option.bind_some, Option.bind_some, wne i (by omega), drop_e h, drop_e (show i < w.length by omega), insB, insB]
      simp only
      rw [fPassed_L1_eq N hN p0 p2 w hp hw hl k (i + 1) _ _ (by omega) (by omega) (by simp; omega) (by simp; omega)]
      simp only [List.append_assoc, List.cons_append, List.nil_append]
    · obtain rfl : i = p0.length := by omega
      rw [if_neg (by omega), Option.bind_some, wne _ (by omega), List.drop_eq_nil_of_le (Nat.le_refl _), List.drop_eq_nil_of_le (show w.length ≤ p0.length by omega), insB]
      simp only
      cases k with
      | zero => omega
      | succ k =>
        unfold fPassed_L1
        rw [if_neg (by omega)]

theorem fPassed_N (N : Nat) (hN : 10000 ≤ N) (N2 : 400000 ≤ N) (l : List Int) (v s e : Int) (hv : 0 ≤ v) (at_ : List Int) : fPassed N l v s e at_ = some true := by
  unfold fPassed
  by_cases h : 1500 < l.length
  · rw [if_pos (by omega), kWorks_eq N (by omega)]
    rfl
  rw [if_neg (by omega)]
  by_cases h2 : 100 < at_.length
  · rw [if_pos (by omega), kWorks_eq N (by omega)]
    rfl
  rw [if_neg (by omega)]
  simp only [Option.bind_some]
  rw [pNeutral_eq N l v s e hv (by omega) (by omega), Option.bind_some, if_neg (by rw [neutralS_len]; omega)]
  have h1 := fPassed_L1_eq N hN l at_ (neutralS l v s e) (by omega) (neutralS_len ..) (by omega) N 0 [] [] (by omega) (Nat.zero_le _) (Nat.le_refl _) (Nat.le_refl _)
  rw [List.drop_zero, List.drop_zero, List.nil_append, List.nil_append, show ((0 : Nat) : Int) = 0 from rfl] at h1
  rw [h1, Option.bind_some]
  simp only
  have hb := insB_le (cntB l.length at_) 100 (fun i => by have := cntB_le l.length at_ i; omega) l 0
  have hb2 : (insB (cntB l.length at_) 0 (neutralS l v s e)).length = (insB (cntB l.length at_) 0 l).length := insB_len _ _ _ _ (neutralS_len ..)
  rw [pNeutral_eq N _ v s e hv (by omega) (by omega), Option.bind_some, neutralS_ins, kIs_self N _ (by omega) (by omega), Option.bind_some]
  simp only
  rw [kWorks_eq N (by omega)]
  rfl
theorem fPassed_true (l : List Int) (v s e : Int) (hv : 0 ≤ v) (at_ : List Int) : ∃ N, fPassed N l v s e at_ = some true := ⟨400000, fPassed_N 400000 (by decide) (Nat.le_refl _) l v s e hv at_⟩
end Go.Proofs.Ytdpcaidhpccaiaa
