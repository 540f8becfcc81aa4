/-
  JoiningForms, JoiningPairs, JoiningPasses, JoiningAgree, by lists (of a program whose Joins and Forms are jn and fms).
-/
import Derived.Test.YtbdhgjaoojimmaaDoorJp
import Derived.Test.YtbdhgjaoojimmaaDoorFForms
import Derived.Test.YtbdhgjaoojimmaaDoorFPairs
import Derived.Test.YtbdhgjaoojimmaaDoorFPasses
import Derived.Test.YtbdhgjaoojimmaaDoorFAgree
namespace Go.Proofs.YtbdhgjaoojimmaaDoor
open Go Go.RowKit _root_.Jn
set_option linter.unusedVariables false
set_option linter.unusedSimpArgs false
section
variable {N : Nat} {l : List Int}
theorem kSame_self (a : List Int) : kSame N a a = some true := by unfold kSame; simp
theorem kWorks_true (hN : 100 ≤ N) : kWorks N = some true := by
  have e1 : fms jnC none [1576, 1576, 1576] = [2, 3, 4] := by kernel_rfl
  have e2 : fms jnC none [1576, 1614, 1575, 1576] = [2, 0, 4, 1] := by kernel_rfl
  have e3 : jn jnC 1576 1575 = true := by kernel_rfl
  have e4 : jn jnC 1575 1576 = false := by kernel_rfl
  unfold kWorks
  rw [pForms_eq (by simp) (by simp; omega), e1, pForms_eq (by simp) (by simp; omega), e2, pJoins_eq, e3, pJoins_eq, e4]
  simp only [Option.bind_some, kSame_self]
  rfl
theorem fForms_L1_ok {s : List Int} (hs : s.length ≤ 2000) : ∀ (f i : Nat) (out : List Int), s.length - i < f → i ≤ s.length → out.length = s.length → fForms_L1 N s f out (i : Int) = some ()
  | 0, i, _, h, _, _ => by omega
  | f + 1, i, out, hf, hi, ho => by
    unfold fForms_L1
    by_cases h : i < s.length
    · rw [if_pos (by omega), ix_nat (getD_some (l := out) (i := i) (by omega)), Option.bind_some, setx_nat (by omega), Option.bind_some, w64s (by omega) (by omega), show (i : Int) + 1 = ((i + 1 : Nat) : Int) by omega]
      exact fForms_L1_ok hs f (i + 1) _ (by omega) h (by simpa using ho)
    · rw [if_neg (by omega)]
theorem fForms_true (hN : 3000 ≤ N) : fForms N l = some true := by
  unfold fForms
  rw [kWorks_true (by omega)]
  by_cases h : (l.length : Int) > 2000
  · rw [if_pos h]; rfl
  rw [if_neg h, apx_ok (by simp; omega), Option.bind_some, List.nil_append, pForms_eq (by omega) (by omega), Option.bind_some, rForms_eq (by omega) (by omega), Option.bind_some, kSame_self]
  have h1 := fForms_L1_ok (N := N) (s := fms jnC none l) (by rw [fms_len]; omega) N 0 (fms jnC none l) (by rw [fms_len]; omega) (by omega) rfl
  rw [show ((0 : Nat) : Int) = 0 from rfl] at h1
  simp only [Option.bind_some, beq_self_eq_true, Bool.not_true, h1, pForms_eq (N := N) (l := l) (by omega) (by omega), kSame_self]
theorem fPairs_true (hN : 100 ≤ N) (a b : Int) : fPairs N a b = some true := by
  unfold fPairs
  rw [pJoins_eq, rJoins_eq, kWorks_true hN]
  simp only [Option.bind_some]
  cases jn jnC a b <;> rfl
/-! ### passes -/
abbrev kept (l : List Int) : List Int := l.filter fun x => !pass jnC x
theorem fPasses_L1_ok (hl : l.length ≤ 600) : ∀ (f i : Nat) (a b : List Int), l.length - i < f → i ≤ l.length → a.length ≤ i → b.length ≤ i →
    fPasses_L1 N l (fms jnC none l) f a b (i : Int) = some (Ctl.go (a ++ kept (l.drop i), b ++ sel jnC (l.drop i) ((fms jnC none l).drop i)))
  | 0, i, _, _, h, _, _, _ => by omega
  | f + 1, i, a, b, hf, hi, ha, hb => by
    unfold fPasses_L1
    by_cases h : i < l.length
    · have e2 : IntKind.i64.wrap ((i : Int) + 1) = ((i + 1 : Nat) : Int) := by rw [w64s (by omega) (by omega)]; omega
      have hx := getD_some (l := l) (i := i) h
      have hat := fms_at l none i h
      have hf1 : i < (fms jnC none l).length := by rw [fms_len]; exact h
      have hfd := getD_some hf1
      rw [if_pos (by omega), ix_nat hx, Option.bind_some, show rfJn N (l.getD i 0) = some (jnC (l.getD i 0)) from rfl, Option.bind_some, ix_nat hfd, e2]
      simp only [Option.bind_some]
      rw [getD_drop h, getD_drop hf1]
      by_cases hp : jnC (l.getD i 0) = 4
      · have hz : (fms jnC none l).getD i 0 = 0 := by
          rw [hfd] at hat
          exact (Option.some.inj hat).trans (fms_pass jnC ((pass_iff _).2 hp) _ _)
        have ih := fPasses_L1_ok hl f (i + 1) a b (by omega) h (by omega) (by omega)
        rw [if_pos hp, hz, if_neg (fun h => h rfl), ih]
        simp only [kept, sel, List.filter_cons, (pass_iff _).2 hp, if_true, Bool.not_true, Bool.false_eq_true, if_false]
      · have hpf : pass jnC (l.getD i 0) = false := by cases h : pass jnC (l.getD i 0) with | false => rfl | true => exact absurd ((pass_iff _).1 h) hp
        have ih := fPasses_L1_ok hl f (i + 1) (a ++ [l.getD i 0]) (b ++ [(fms jnC none l).getD i 0]) (by omega) h (by simp; omega) (by simp; omega)
        rw [if_neg hp, apx_ok (by simp; omega), Option.bind_some, apx_ok (by simp; omega), Option.bind_some, ih]
        simp only [kept, sel, List.filter_cons, hpf, if_true, Bool.not_false, Bool.false_eq_true, if_false, List.append_assoc, List.singleton_append]
    · rw [if_neg (by omega), List.drop_eq_nil_of_le (by omega), List.drop_eq_nil_of_le (by rw [fms_len]; omega)]
      simp [sel]
theorem kPick_in {n m : Int} (hm : 0 < m) (hb : m ≤ 1000) : ∃ k : Int, kPick N n m = some k ∧ 0 ≤ k ∧ k < m := by
  unfold kPick
  rw [if_neg (by omega), if_neg (by omega), if_neg (by omega)]
  have h1 : -m < Int.tmod n m := by have := Int.lt_tmod_of_pos n hm; exact this
  have h2 : Int.tmod n m < m := Int.tmod_lt_of_pos n hm
  rw [w64s (by omega) (by omega)]
  refine ⟨_, rfl, Int.tmod_nonneg m (by omega), Int.tmod_lt_of_pos _ hm⟩
theorem kept_clean : clean jnC (kept l) := fun x hx => by
  have := (List.mem_filter.1 hx).2
  simpa using this
theorem fPasses_true (hN : 3000 ≤ N) (n : Int) : fPasses N l n = some true := by
  unfold fPasses
  rw [kWorks_true (by omega)]
  by_cases h : (l.length : Int) > 600
  · rw [if_pos h]; rfl
  have h1 := fPasses_L1_ok (N := N) (l := l) (by omega) N 0 [] [] (by omega) (by omega) (by simp) (by simp)
  rw [show ((0 : Nat) : Int) = 0 from rfl, List.drop_zero, List.drop_zero, List.nil_append, List.nil_append, sel_fms] at h1
  have h1 : fPasses_L1 N l (fms jnC none l) N [] [] 0 = some (Ctl.go (kept l, fms jnC none (kept l))) := h1
  have hk : (kept l).length ≤ l.length := List.length_filter_le _ _
  have hc : clean jnC (kept l) := kept_clean
  rw [if_neg h, pForms_eq (by omega) (by omega), Option.bind_some, fms_len, if_neg (fun h => h rfl), h1]
  simp only [Option.bind_some]
  generalize kept l = s at hk hc
  obtain ⟨k, p1, p2, p3⟩ := kPick_in (N := N) (n := n) (m := (s.length : Int) + 1) (by omega) (by omega)
  obtain ⟨k, rfl⟩ : ∃ k' : Nat, k = (k' : Int) := ⟨k.toNat, by omega⟩
  have hks : k ≤ s.length := by omega
  have fin : (∀ x y, 0 < k → s[k - 1]? = some x → s[k]? = some y → jn jnC x y = false) →
      ((cutx s (0 : Int) (k : Int)).bind fun l188 => ((cutx (fms jnC none s) (0 : Int) (k : Int)).bind fun l194 => ((pForms N l188).bind fun l202 => ((kSame N l202 l194).bind fun b210 => (match b210 with | true => ((cutx s (k : Int) ((s.length : Nat) : Int)).bind fun l214 => ((cutx (fms jnC none s) (k : Int) (((fms jnC none s).length : Nat) : Int)).bind fun l220 => ((pForms N l214).bind fun l228 => ((kSame N l228 l220).bind fun b236 => (match b236 with | true => ((some true : Option Bool).bind fun b242 => some b242) | false => some false))))) | false => some false))))) = some true := by
    intro hj
    obtain ⟨c1, c2⟩ := fms_take jnC s hc k hks hj
    have q1 := cut_nat (l := s) (i := 0) (j := k) (by omega) hks
    have q2 := cut_nat (l := fms jnC none s) (i := 0) (j := k) (by omega) (by rw [fms_len]; exact hks)
    have q3 := cut_nat (l := s) (i := k) (j := s.length) hks (by omega)
    have q4 := cut_nat (l := fms jnC none s) (i := k) (j := (fms jnC none s).length) (by rw [fms_len]; exact hks) (by omega)
    rw [List.drop_zero, show ((0 : Nat) : Int) = 0 from rfl] at q1 q2
    rw [List.take_of_length_le (Nat.le_refl _)] at q3 q4
    rw [q1, q2, q3, q4]
    simp only [Option.bind_some]
    rw [pForms_eq (by rw [List.length_take]; omega) (by rw [List.length_take]; omega), c1, pForms_eq (by rw [List.length_drop]; omega) (by rw [List.length_drop]; omega), c2]
    simp only [Option.bind_some, kSame_self]
  rw [pForms_eq (by omega) (by omega)]
  simp only [Option.bind_some, kSame_self]
  rw [w64s (by omega) (by omega), p1]
  simp only [Option.bind_some]
  by_cases h2 : (k : Int) > 0
  · by_cases h3 : (k : Int) < ((s.length : Nat) : Int)
    · have e1 : IntKind.i64.wrap ((k : Int) - 1) = ((k - 1 : Nat) : Int) := by rw [w64s (by omega) (by omega)]; omega
      have x1 := getD_some (l := s) (i := k - 1) (by omega)
      have x2 := getD_some (l := s) (i := k) (by omega)
      rw [if_pos h2, if_pos h3, e1, ix_nat x1, ix_nat x2]
      simp only [Option.bind_some, pJoins_eq]
      cases hj : jn jnC (s.getD (k - 1) 0) (s.getD k 0) with
      | true => rfl
      | false =>
        simp only [Option.bind_some]
        refine fin fun x y _ hx hy => ?_
        rw [x1] at hx; rw [x2] at hy
        rw [← Option.some.inj hx, ← Option.some.inj hy]; exact hj
    · rw [if_pos h2, if_neg h3]
      simp only [Option.bind_some]
      refine fin fun x y _ hx hy => ?_
      have := (List.getElem?_eq_some_iff.1 hy).1
      omega
  · rw [if_neg h2]
    simp only [Option.bind_some]
    refine fin fun x y h0 hx hy => ?_
    omega
/-! ### neighbours agree -/
theorem fAgree_L1_ok (hl : l.length ≤ 600) : ∀ (f i : Nat) (last : Int), l.length - i < f → i ≤ l.length →
    ((last = -1 ∧ prv none (l.take i) = none) ∨ ∃ j : Nat, last = (j : Int) ∧ j < i ∧ prv none (l.take i) = some (l.getD j 0) ∧ nxt jnC (l.drop (j + 1)) = nxt jnC (l.drop i)) →
    fAgree_L1 N l (fms jnC none l) f last (i : Int) = some (Ctl.go ())
  | 0, i, _, h, _, _ => by omega
  | f + 1, i, last, hf, hi, hI => by
    unfold fAgree_L1
    by_cases h : i < l.length
    · have e2 : IntKind.i64.wrap ((i : Int) + 1) = ((i + 1 : Nat) : Int) := by rw [w64s (by omega) (by omega)]; omega
      have hx := getD_some (l := l) (i := i) h
      have hat := fms_at l none i h
      rw [if_pos (by omega), ix_nat hx, Option.bind_some, show rfJn N (l.getD i 0) = some (jnC (l.getD i 0)) from rfl, Option.bind_some, e2]
      by_cases hp : jnC (l.getD i 0) = 4
      · rw [if_pos hp]
        refine fAgree_L1_ok hl f (i + 1) last (by omega) h ?_
        have hpt := (pass_iff _).2 hp
        have hn : nxt jnC (l.drop i) = nxt jnC (l.drop (i + 1)) := by rw [getD_drop h, nxt, if_pos hpt]
        rw [prv_succ h, if_pos hpt]
        rcases hI with hI | ⟨j, a1, a2, a3, a4⟩
        · exact .inl hI
        · exact .inr ⟨j, a1, by omega, a3, a4.trans hn⟩
      · have hpf : ¬ pass jnC (l.getD i 0) = true := fun h => hp ((pass_iff _).1 h)
        have hn : nxt jnC (l.drop i) = some (l.getD i 0) := by rw [getD_drop h, nxt, if_neg hpf]
        have hf2 : l.length - (i + 1) < f := by clear hI; omega
        have ih := fAgree_L1_ok hl f (i + 1) (i : Int) hf2 h (.inr ⟨i, rfl, Nat.lt_succ_self i, by rw [prv_succ h, if_neg hpf], rfl⟩)
        rw [if_neg hp, ix_nat hat]
        simp only [Option.bind_some]
        have hg : ∀ g : Int, (if g = 3 then some (true) else (if g = 4 then some (true) else some (false)) : Option Bool) = some (jd g) := by
          intro g; unfold jd
          by_cases g3 : g = 3 <;> by_cases g4 : g = 4 <;> simp [g3, g4]
        rw [hg]
        simp only [Option.bind_some]
        rcases hI with ⟨rfl, a1⟩ | ⟨j, rfl, a2, a3, a4⟩
        · rw [a1, show jo jnC none (l.getD i 0) = false from rfl, jd_none, if_pos (by omega), if_neg (by omega)]
          exact ih
        · have hj := fms_at l none j (by omega)
          have hjx := getD_some (l := l) (i := j) (by omega)
          have hb : jb jnC (l.getD j 0) (nxt jnC (l.drop (j + 1))) = jn jnC (l.getD j 0) (l.getD i 0) := by rw [a4, hn]; rfl
          have hcc : jo jnC (prv none (l.take i)) (l.getD i 0) = jn jnC (l.getD j 0) (l.getD i 0) := by rw [a3]; rfl
          have hag := agr_ok jnC (l.getD j 0) (l.getD i 0) (jo jnC (prv none (l.take j)) (l.getD j 0)) (jb jnC (l.getD j 0) (nxt jnC (l.drop (j + 1)))) (jo jnC (prv none (l.take i)) (l.getD i 0)) (jb jnC (l.getD i 0) (nxt jnC (l.drop (i + 1)))) hb hcc
          rw [if_neg (by omega), ix_nat hj, ix_nat hjx]
          simp only [Option.bind_some, show ∀ x, rfJn N x = some (jnC x) from fun _ => rfl]
          rw [if_pos (by omega)]
          generalize form (jnC (l.getD i 0)) (jo jnC (prv none (l.take i)) (l.getD i 0)) (jb jnC (l.getD i 0) (nxt jnC (l.drop (i + 1)))) = g at hag ⊢
          generalize form (jnC (l.getD j 0)) (jo jnC (prv none (l.take j)) (l.getD j 0)) (jb jnC (l.getD j 0) (nxt jnC (l.drop (j + 1)))) = q at hag ⊢
          unfold agr at hag
          rw [show ((i + 1 : Nat) : Int) = (i : Int) + 1 by clear hag; omega] at ih ⊢
          generalize jnC (l.getD j 0) = u at hag ⊢
          generalize jnC (l.getD i 0) = v at hag ⊢
          by_cases q3 : q = 3 <;> by_cases q2 : q = 2 <;> by_cases u3 : u = 3 <;> by_cases v3 : v = 3 <;> cases hd : jd g <;> simp [q3, q2, u3, v3, hd, ih] at hag ⊢
    · rw [if_neg (by omega)]
theorem fAgree_true (hN : 3000 ≤ N) : fAgree N l = some true := by
  unfold fAgree
  rw [kWorks_true (by omega)]
  by_cases h : (l.length : Int) > 600
  · rw [if_pos h]; rfl
  have h1 := fAgree_L1_ok (N := N) (l := l) (by omega) N 0 (-1) (by omega) (by omega) (.inl ⟨rfl, by simp [prv]⟩)
  rw [show ((0 : Nat) : Int) = 0 from rfl] at h1
  rw [if_neg h, pForms_eq (by omega) (by omega), Option.bind_some, fms_len, if_neg (fun h => h rfl), h1]
  rfl
end
end Go.Proofs.YtbdhgjaoojimmaaDoor
