/-
  Substitutions: what is read is right.
-/
import Derived.Test.YtgjlpiljacecpaaM4
import Derived.Test.YtgjlpiljacecpaaKA
namespace Go.Proofs.Ytgjlpiljacecpaa
open Go Go.RowKit
set_option linter.unusedVariables false
set_option linter.unusedSectionVars false
set_option linter.unusedSimpArgs false
section
variable (N : Nat) (g lk : Int) (hN : 200000000 < N)
include hN
theorem below_loop (l : List Int) (hl : l.length ≤ 65535) (hL : ∀ x ∈ l, InG g x) : ∀ (k i : Nat), l.length - i < k → kBelow_L1 N l g k (i : Int) = some (Ctl.go ())
  | 0, i, h => absurd h (Nat.not_lt_zero _)
  | k + 1, i, h => by
    unfold kBelow_L1
    by_cases hx : i < l.length
    · have h1 := hL _ (getD_mem hx)
      unfold InG at h1
      rw [if_pos (by omega), ix_nat hx, Option.bind_some, w64 (x := l.getD i 0) (by omega) (by omega), if_neg (by omega), wp1 i (by omega)]
      exact below_loop l hl hL k (i + 1) (by omega)
    · rw [if_neg (by omega)]
theorem below_eq (l : List Int) (hl : l.length ≤ 65535) (hL : ∀ x ∈ l, InG g x) : kBelow N l g = some true := by
  unfold kBelow
  have h : kBelow_L1 N l g N 0 = _ := below_loop N g hN l hl hL N 0 (by omega)
  rw [h]; rfl
theorem rising_loop (l : List Int) (hl : RiseL g l) : ∀ (k i : Nat), l.length - i < k → kRising_L1 N l g k (i : Int) = some (Ctl.go ())
  | 0, i, h => absurd h (Nat.not_lt_zero _)
  | k + 1, i, h => by
    have hlen := hl.2.2
    unfold kRising_L1
    by_cases hx : i < l.length
    · have h1 := hl.2.1 _ (getD_mem hx)
      rw [if_pos (by omega), ix_nat hx, Option.bind_some, w64 (x := l.getD i 0) (by omega) (by omega), if_neg (by omega), wp1 i (by omega)]
      have ih := rising_loop l hl k (i + 1) (by omega)
      by_cases h0 : i = 0
      · rw [if_neg (by omega)]; exact ih
      · rw [if_pos (by omega), Option.bind_some, w64 (x := (i : Int) - 1) (by omega) (by omega), show (i : Int) - 1 = ((i - 1 : Nat) : Int) by omega, ix_nat (by omega), Option.bind_some]
        have h2 := (List.pairwise_iff_getElem.1 hl.1) (i - 1) i (by omega) hx (by omega)
        have e1 : l.getD i 0 = l[i] := by simp [hx]
        have e2 : l.getD (i - 1) 0 = l[i - 1]'(by omega) := by simp [show i - 1 < l.length by omega]
        rw [if_neg (by rw [e1, e2]; omega)]
        exact ih
    · rw [if_neg (by omega)]
theorem rising_eq (l : List Int) (hl : RiseL g l) : kRising N l g = some true := by
  have hlen := hl.2.2
  unfold kRising
  have h : kRising_L1 N l g N 0 = _ := rising_loop N g hN l hl N 0 (by omega)
  rw [h]; rfl
theorem sets_loop (l : List (List Int)) (hl : SetsOK g l) : ∀ (k i : Nat), l.length - i < k → kSets_L1 N l g k (i : Int) = some (Ctl.go ())
  | 0, i, h => absurd h (Nat.not_lt_zero _)
  | k + 1, i, h => by
    have hlen := hl.2
    unfold kSets_L1
    by_cases hx : i < l.length
    · have h1 := hl.1 _ (List.getElem_mem hx)
      have h2 := h1.2.2
      rw [if_pos (by omega), ixg_eq hx, Option.bind_some, if_neg (by omega), Option.bind_some, rising_eq N g hN _ h1, Option.bind_some, wp1 i (by omega)]
      exact sets_loop l hl k (i + 1) (by omega)
    · rw [if_neg (by omega)]
theorem sets_eq (l : List (List Int)) (hl : SetsOK g l) : kSets N l g = some true := by
  have hlen := hl.2
  unfold kSets
  have h : kSets_L1 N l g N 0 = _ := sets_loop N g hN l hl N 0 (by omega)
  rw [h]; rfl
theorem pairs_loop (l : List (Int × Int)) (hl : PairsOK g l) : ∀ (k i : Nat), l.length - i < k → kRightSub_L1 N l g k (i : Int) = some (Ctl.go ())
  | 0, i, h => absurd h (Nat.not_lt_zero _)
  | k + 1, i, h => by
    have hlen := hl.2.2
    unfold kRightSub_L1
    by_cases hx : i < l.length
    · have h1 := hl.2.1 _ (List.getElem_mem hx)
      unfold InG at h1
      have ih := pairs_loop l hl k (i + 1) (by omega)
      rw [if_pos (by omega), ixg_eq hx, Option.bind_some, w64 (x := l[i].1) (by omega) (by omega), if_neg (by omega), Option.bind_some, w64 (x := l[i].2) (by omega) (by omega), if_neg (by omega), Option.bind_some]
      simp only
      rw [wp1 i (by omega)]
      by_cases h0 : i = 0
      · rw [if_neg (by omega)]; exact ih
      · rw [if_pos (by omega), Option.bind_some, w64 (x := (i : Int) - 1) (by omega) (by omega), show (i : Int) - 1 = ((i - 1 : Nat) : Int) by omega, ixg_eq (by omega), Option.bind_some]
        have h2 := (List.pairwise_iff_getElem.1 hl.1) (i - 1) i (by omega) hx (by omega)
        rw [if_neg (by omega)]
        exact ih
    · rw [if_neg (by omega)]
theorem manys_loop (l : List (Int × List Int)) (hl : ManysOK g l) : ∀ (k i : Nat), l.length - i < k → kRightSub_L2 N l g k (i : Int) = some (Ctl.go ())
  | 0, i, h => absurd h (Nat.not_lt_zero _)
  | k + 1, i, h => by
    have hlen := hl.2.2
    unfold kRightSub_L2
    by_cases hx : i < l.length
    · obtain ⟨h1, h2, h3, h4⟩ := hl.2.1 _ (List.getElem_mem hx)
      unfold InG at h1
      have ih := manys_loop l hl k (i + 1) (by omega)
      rw [if_pos (by omega), ixg_eq hx, Option.bind_some, w64 (x := l[i].1) (by omega) (by omega), if_neg (by omega), Option.bind_some, if_neg (by omega), Option.bind_some]
      simp only [Option.bind_some]
      rw [below_eq N g hN _ h3 h4]
      simp only [Option.bind_some]
      rw [wp1 i (by omega)]
      by_cases h0 : i = 0
      · rw [if_neg (by omega)]; exact ih
      · rw [if_pos (by omega), w64 (x := (i : Int) - 1) (by omega) (by omega), show (i : Int) - 1 = ((i - 1 : Nat) : Int) by omega, ixg_eq (by omega), Option.bind_some]
        have h2 := (List.pairwise_iff_getElem.1 hl.1) (i - 1) i (by omega) hx (by omega)
        rw [if_neg (by omega)]
        exact ih
    · rw [if_neg (by omega)]
theorem ligs_loop (l : List (List Int × Int)) (hl : LigsOK g l) : ∀ (k i : Nat), l.length - i < k → kRightSub_L3 N l g k (i : Int) = some (Ctl.go ())
  | 0, i, h => absurd h (Nat.not_lt_zero _)
  | k + 1, i, h => by
    have hlen := hl.2.2
    unfold kRightSub_L3
    by_cases hx : i < l.length
    · obtain ⟨h2, h3, h4, h1⟩ := hl.2.1 _ (List.getElem_mem hx)
      unfold InG at h1
      have ih := ligs_loop l hl k (i + 1) (by omega)
      rw [if_pos (by omega), ixg_eq hx, Option.bind_some, if_neg (by omega), Option.bind_some]
      simp only [Option.bind_some]
      rw [below_eq N g hN _ h3 h4]
      simp only [Option.bind_some]
      rw [w64 (x := l[i].2) (by omega) (by omega), if_neg (by omega)]
      simp only [Option.bind_some]
      rw [wp1 i (by omega)]
      by_cases h0 : i = 0
      · rw [if_neg (by omega)]; exact ih
      · obtain ⟨h5, _⟩ := hl.2.1 _ (List.getElem_mem (show i - 1 < l.length by omega))
        rw [if_pos (by omega), head_ix _ h2, Option.bind_some, w64 (x := (i : Int) - 1) (by omega) (by omega), show (i : Int) - 1 = ((i - 1 : Nat) : Int) by omega, ixg_eq (by omega), Option.bind_some, head_ix _ h5, Option.bind_some]
        have h2 := (List.pairwise_iff_getElem.1 hl.1) (i - 1) i (by omega) hx (by omega)
        rw [if_neg (by omega)]
        exact ih
    · rw [if_neg (by omega)]
theorem recs_loop (y : List (List Int)) (hy : y.length ≤ 65535) (l : List (Int × Int)) (hl : RecsOK (y.length : Nat) lk l) : ∀ (k i : Nat), l.length - i < k → kRightSub_L4 N y l lk k (i : Int) = some (Ctl.go ())
  | 0, i, h => absurd h (Nat.not_lt_zero _)
  | k + 1, i, h => by
    have hlen := hl.2
    unfold kRightSub_L4
    by_cases hx : i < l.length
    · obtain ⟨h1, h2, h3, h4⟩ := hl.1 _ (List.getElem_mem hx)
      have ih := recs_loop y hy l hl k (i + 1) (by omega)
      rw [if_pos (by omega), ixg_eq hx, Option.bind_some, if_neg (by omega), if_neg (by omega)]
      simp only [Option.bind_some]
      rw [if_neg (by omega), if_neg (by omega), wp1 i (by omega)]
      exact ih
    · rw [if_neg (by omega)]
theorem rightsub_eq (kind : Int) (s : TSub) (h : SubOK g lk kind s) : kRightSub N kind s.1 s.2.1 s.2.2.1 s.2.2.2.1 s.2.2.2.2.1 s.2.2.2.2.2.1 s.2.2.2.2.2.2 g lk = some true := by
  unfold kRightSub
  rcases h with ⟨p, hk, rfl, h⟩ | ⟨p, rfl, rfl, h⟩ | ⟨p, rfl, rfl, h⟩ | ⟨x, y, z, r, rfl, rfl, hx, hy, hz, h1, hr⟩
  · have hlen := h.2.2
    have hl : kRightSub_L1 N p g N 0 = some (Ctl.go ()) := pairs_loop N g hN p h N 0 (by omega)
    rcases hk with rfl | rfl
    · simp [hl, w64, show 0 < p.length by omega]
    · simp [hl, w64, show 0 < p.length by omega]
  · have hlen := h.2.2
    have hl : kRightSub_L2 N p g N 0 = some (Ctl.go ()) := manys_loop N g hN p h N 0 (by omega)
    simp [hl, w64, show 0 < p.length by omega]
  · have hlen := h.2.2
    have hl : kRightSub_L3 N p g N 0 = some (Ctl.go ()) := ligs_loop N g hN p h N 0 (by omega)
    simp [hl, w64, show 0 < p.length by omega]
  · have hlen := hr.2
    have hl : kRightSub_L4 N y r lk N 0 = some (Ctl.go ()) := recs_loop N lk hN y hy.2 r hr N 0 (by omega)
    simp [hl, sets_eq N g hN x hx, sets_eq N g hN y hy, sets_eq N g hN z hz, show 0 < y.length by omega]
end
end Go.Proofs.Ytgjlpiljacecpaa
