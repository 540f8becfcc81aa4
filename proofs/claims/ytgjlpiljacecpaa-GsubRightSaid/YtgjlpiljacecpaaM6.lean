/-
  GsubRight.
-/
import Derived.Test.YtgjlpiljacecpaaM0
namespace Go.Proofs.Ytgjlpiljacecpaa
open Go Go.RowKit
set_option linter.unusedVariables false
set_option linter.unusedSectionVars false
set_option linter.unusedSimpArgs false

section
variable (N : Nat) (g : Int) (hN : 200000000 < N)
include hN

theorem rightl_L2 (l : List TLk) (hl : l.length ≤ 256) (i : Nat) (hi : i < l.length) (h : LkOK g (l.length : Nat) l[i]) : ∀ (k j : Nat), l[i].2.2.1.length - j < k → kRightL_L2 N l g (i : Int) k (j : Int) = some (Ctl.go ())
  | 0, j, h0 => absurd h0 (Nat.not_lt_zero _)
  | k + 1, j, h0 => by
    have hlen := h.2.2.1.2
    unfold kRightL_L2
    rw [ixg_eq hi]
    simp only [Option.bind_some]
    by_cases hj : j < l[i].2.2.1.length
    · rw [if_pos (by omega)]
      rw [ixg_eq hj, Option.bind_some, rightsub_eq N g _ hN _ _ (h.2.2.2.2 _ (List.getElem_mem hj)), Option.bind_some, wp1 j (by omega)]
      exact rightl_L2 l hl i hi h k (j + 1) (by omega)
    · rw [if_neg (by omega)]
theorem rightl_L3 (l : List TLk) (hl : l.length ≤ 256) (i : Nat) (hi : i < l.length) (h : LkOK g (l.length : Nat) l[i]) : kRightL_L3 N l g (i : Int) N 0 = some (Ctl.go ()) := by
  obtain ⟨k, rfl⟩ : ∃ k, N = k + 1 := ⟨N - 1, by omega⟩
  unfold kRightL_L3
  rw [ixg_eq hi, Option.bind_some, h.2.2.2.1, if_neg (by simp)]
theorem rightl_L1 (l : List TLk) (hl : l.length ≤ 256) (h : ∀ x ∈ l, LkOK g (l.length : Nat) x) : ∀ (k i : Nat), l.length - i < k → kRightL_L1 N l g true k (i : Int) = some (Ctl.go ())
  | 0, i, h0 => absurd h0 (Nat.not_lt_zero _)
  | k + 1, i, h0 => by
    unfold kRightL_L1
    by_cases hi : i < l.length
    · have h1 := h _ (List.getElem_mem hi)
      obtain ⟨h2, h3, h4, h5, h6⟩ := h1
      have e2 : kRightL_L2 N l g (i : Int) N 0 = some (Ctl.go ()) := rightl_L2 N g hN l hl i hi (h _ (List.getElem_mem hi)) N 0 (by omega)
      rw [if_pos (by omega), ixg_eq hi]
      simp only [Option.bind_some]
      rw [if_neg (by omega)]
      rw [if_neg (by rw [Int.tmod_eq_emod_of_nonneg (by omega)]; omega)]
      simp only [Option.bind_some]
      rw [h5, if_neg (by simp)]
      rw [if_neg (by omega)]
      simp only [Option.bind_some]
      rw [if_neg (by omega)]
      simp only [Option.bind_some]
      rw [e2]
      simp only [Option.bind_some]
      rw [rightl_L3 N g hN l hl i hi (h _ (List.getElem_mem hi))]
      simp only [Option.bind_some]
      rw [wp1 i (by omega)]
      exact rightl_L1 l hl h k (i + 1) (by omega)
    · rw [if_neg (by omega)]
theorem rightl_eq (l : List TLk) (hl : l.length ≤ 256) (h : ∀ x ∈ l, LkOK g (l.length : Nat) x) : kRightL N l g true = some true := by
  unfold kRightL
  have e : kRightL_L1 N l g true N 0 = some (Ctl.go ()) := rightl_L1 N g hN l hl h N 0 (by omega)
  rw [if_neg (by omega), e]; rfl

theorem rightf_L2 (l : List Fe) (lk : Int) (i : Nat) (hi : i < l.length) (h : FeatOK lk l[i]) : ∀ (k j : Nat), l[i].2.length - j < k → kRightF_L2 N l lk (i : Int) k (j : Int) = some (Ctl.go ())
  | 0, j, h0 => absurd h0 (Nat.not_lt_zero _)
  | k + 1, j, h0 => by
    have hlen := h.1
    unfold kRightF_L2
    rw [ixg_eq hi]
    simp only [Option.bind_some]
    by_cases hj : j < l[i].2.length
    · have h1 := h.2.2 _ (getD_mem hj)
      have ih := rightf_L2 l lk i hi h k (j + 1) (by omega)
      rw [if_pos (by omega), ix_nat hj]
      simp only [Option.bind_some]
      rw [if_neg (by omega), if_neg (by omega)]
      simp only [Option.bind_some]
      rw [wp1 j (by omega)]
      by_cases h0 : j = 0
      · rw [if_neg (by omega)]; exact ih
      · rw [if_pos (by omega), w64 (x := (j : Int) - 1) (by omega) (by omega), show (j : Int) - 1 = ((j - 1 : Nat) : Int) by omega, ix_nat (by omega), Option.bind_some]
        have h2 := (List.pairwise_iff_getElem.1 h.2.1) (j - 1) j (by omega) hj (by omega)
        have e1 : l[i].2.getD j 0 = l[i].2[j] := by simp [hj]
        have e2 : l[i].2.getD (j - 1) 0 = l[i].2[j - 1]'(by omega) := by simp [show j - 1 < l[i].2.length by omega]
        rw [if_neg (by rw [e1, e2]; omega)]
        exact ih
    · rw [if_neg (by omega)]
theorem rightf_L1 (l : List Fe) (lk : Int) (hl : l.length ≤ 512) (h : ∀ x ∈ l, FeatOK lk x) : ∀ (k i : Nat), l.length - i < k → kRightF_L1 N l lk k (i : Int) = some (Ctl.go ())
  | 0, i, h0 => absurd h0 (Nat.not_lt_zero _)
  | k + 1, i, h0 => by
    unfold kRightF_L1
    by_cases hi : i < l.length
    · have h1 := h _ (List.getElem_mem hi)
      have e : kRightF_L2 N l lk (i : Int) N 0 = some (Ctl.go ()) := rightf_L2 N hN l lk i hi h1 N 0 (by have := h1.1; omega)
      rw [if_pos (by omega), e]
      simp only [Option.bind_some]
      rw [wp1 i (by omega)]
      exact rightf_L1 l lk hl h k (i + 1) (by omega)
    · rw [if_neg (by omega)]
theorem rightf_eq (l : List Fe) (lk : Int) (hl : l.length ≤ 512) (h : ∀ x ∈ l, FeatOK lk x) : kRightF N l lk = some true := by
  unfold kRightF
  have e : kRightF_L1 N l lk N 0 = some (Ctl.go ()) := rightf_L1 N hN l lk hl h N 0 (by omega)
  rw [if_neg (by omega), e]; rfl

theorem gr_L2 (l : List TLk) (hl : l.length ≤ 256) (i : Nat) (hi : i < l.length) (h : LkOK g (l.length : Nat) l[i]) : ∀ (k j : Nat), l[i].2.2.1.length - j < k → fGRight_L2 N g l (i : Int) k (j : Int) = some (Ctl.go ())
  | 0, j, h0 => absurd h0 (Nat.not_lt_zero _)
  | k + 1, j, h0 => by
    have hlen := h.2.2.1.2
    unfold fGRight_L2
    rw [ixg_eq hi]
    simp only [Option.bind_some]
    by_cases hj : j < l[i].2.2.1.length
    · rw [if_pos (by omega)]
      rw [ixg_eq hj, Option.bind_some, rightsub_eq N g _ hN _ _ (h.2.2.2.2 _ (List.getElem_mem hj)), Option.bind_some, wp1 j (by omega)]
      exact gr_L2 l hl i hi h k (j + 1) (by omega)
    · rw [if_neg (by omega)]
theorem gr_L1 (l : List TLk) (hl : l.length ≤ 256) (h : ∀ x ∈ l, LkOK g (l.length : Nat) x) : ∀ (k i : Nat), l.length - i < k → fGRight_L1 N g l k (i : Int) = some (Ctl.go ())
  | 0, i, h0 => absurd h0 (Nat.not_lt_zero _)
  | k + 1, i, h0 => by
    unfold fGRight_L1
    by_cases hi : i < l.length
    · have h1 := h _ (List.getElem_mem hi)
      have e2 : fGRight_L2 N g l (i : Int) N 0 = some (Ctl.go ()) := gr_L2 N g hN l hl i hi h1 N 0 (by have := h1.2.2.1.2; omega)
      rw [if_pos (by omega), e2]
      simp only [Option.bind_some]
      rw [wp1 i (by omega)]
      exact gr_L1 l hl h k (i + 1) (by omega)
    · rw [if_neg (by omega)]
end

theorem open_q (N : Nat) (b : List Int) (hb : b.length ≤ 1000000000) : qOpen N b = some (b, false) := by
  unfold qOpen
  cases b with
  | nil => rfl
  | cons a t =>
    simp only [List.length_cons] at hb
    simp [qClone, qCloneS, apx_eq, hb]

theorem gright_any (N : Nat) (hN : 200000000 < N) (hw : fWorks7 N = some true) (b : List Int) (g : Int) (hU : U8 b) : fGRight N b g = some true := by
  unfold fGRight
  by_cases h : ((b.length : Nat) : Int) > 3000
  · rw [if_pos h, hw]; rfl
  · rw [if_neg h, open_q _ b (by omega), Option.bind_some]
    simp only
    obtain ⟨r, e, hr⟩ := parsed_good N b g hU (by omega) (by omega)
    unfold gParse
    rw [e]
    cases r with
    | gone x =>
      obtain ⟨x1, x2⟩ := x
      simp only [Option.bind_some]
      split
      · rw [if_pos (by simp), if_pos (by simp), hw]; rfl
      · have h0 : (∀ x ∈ ([] : List TLk), LkOK g (([] : List TLk).length : Nat) x) := fun x hx => by cases hx
        rw [show fGRight_L1 N g [] N 0 = some (Ctl.go ()) from gr_L1 N g hN [] (by simp) h0 N 0 (by simp; omega)]
        simp only [Option.bind_some]
        rw [rightl_eq N g hN [] (by simp) h0, Option.bind_some]
        simp only
        rw [rightf_eq N hN [] _ (by simp) (fun x hx => by cases hx), Option.bind_some]
        simp only
        rw [hw]; rfl
    | ok x =>
      obtain ⟨l, f, q⟩ := x
      obtain ⟨h1, h2, h3, h4⟩ := hr _ rfl
      simp only at h1 h2 h3 h4
      simp only [Option.bind_some]
      rw [if_neg (by simp), show fGRight_L1 N g l N 0 = some (Ctl.go ()) from gr_L1 N g hN l h2 h1 N 0 (by omega)]
      simp only [Option.bind_some]
      rw [rightl_eq N g hN l h2 h1, Option.bind_some]
      simp only
      rw [rightf_eq N hN f _ h4 h3, Option.bind_some]
      simp only
      rw [hw]; rfl

theorem gright_true (b : List Int) (g : Int) (hU : U8 b) : ∃ N, fGRight N b g = some true := ⟨200000001, gright_any _ (by decide) works7_t b g hU⟩

theorem gright_calls (W : World) (a : List Int) (ha : U8 a) {A : Option Addr} {c : Nat} (hr : Vw [] .u8 W A c a) (g : Int) :
    Calls Try.prog 3 #[.slice A a.length c, .int .i64 g] W fun e W' => e = .returned (.bool true) ∧ Below W.heap.size W W' := by
  obtain ⟨N, hN⟩ := gright_true a g ha
  refine (fGRight_ok N a g A c true hN W hr).mono ?_
  rintro e w ⟨v, rfl, rfl, h⟩
  exact ⟨rfl, h.below⟩
end Go.Proofs.Ytgjlpiljacecpaa
