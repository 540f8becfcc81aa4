/-
  CoverFeatures.
-/
import Derived.Test.YtcleaepcjbfmhaaLu
import Derived.Test.YtcleaepcjbfmhaaZV
namespace Go.Proofs.Ytcleaepcjbfmhaa
open Go Go.RowKit
set_option linter.unusedVariables false
set_option linter.unusedSectionVars false
set_option linter.unusedSimpArgs false

theorem open_q (N : Nat) (b : List Int) (hb : b.length ≤ 1000000000) : qOpen N b = some (b, false) := by
  unfold qOpen qClone qCloneS
  rw [apx_eq (by show 0 + _ ≤ _; omega)]
  rfl
theorem same_loop (N : Nat) (l : List Int) (hl : l.length ≤ 1000000000) : ∀ (k x : Nat), l.length - x < k → kSameI_L1 N l l k (x : Int) = some (Ctl.go ()) := by
  intro k
  induction k with
  | zero => intro x h; omega
  | succ k ih =>
    intro x h
    unfold kSameI_L1
    by_cases hx : x < l.length
    · rw [if_pos (by omega), zix hx, Option.bind_some, Option.bind_some, if_neg (by simp), zwp x (by omega)]
      exact ih (x + 1) (by omega)
    · rw [if_neg (by omega)]
theorem same_q (N : Nat) (l : List Int) (hl : l.length ≤ 1000000000) (hN : l.length < N) : kSameI N l l = some true := by
  unfold kSameI
  have := same_loop N l hl N 0 (by omega)
  have this' : kSameI_L1 N l l N 0 = some (Ctl.go ()) := this
  rw [if_neg (by simp), this']
  rfl
theorem works_t : fWorks 2000000 = some true := by kernel_rfl

def goodF (x : Fe) : Prop := inB x.1 ∧ x.2.length ≤ 65536
theorem up_len (ws : List Int) (m : Nat) : (upL ws m).length ≤ m := by
  unfold upL
  rw [List.length_map]
  exact Nat.le_trans (List.length_filter_le ..) (by rw [List.length_range]; exact Nat.le_refl _)
theorem spec_good (b : List Int) (p1 p2 : Int) (hU : U8 b) : ∀ (n i : Nat) (acc l : List Fe), specF b p1 p2 n i acc = some l → (∀ x ∈ acc, goodF x) → ∀ x ∈ l, goodF x
  | 0, _, acc, l, h, ha => by
    unfold specF at h
    injection h with h
    rw [← h]; exact ha
  | n + 1, i, acc, l, h, ha => by
    unfold specF at h
    cases hr : resF b (p1 + rdv b (p1 + 2 + 6 * (i : Nat) + 4)) p2 with
    | none => rw [hr] at h; cases h
    | some r =>
      rw [hr] at h
      refine spec_good b p1 p2 hU n (i + 1) _ l h fun x hx => ?_
      rcases List.mem_append.1 hx with hx | hx
      · exact ha x hx
      · rw [List.mem_singleton.1 hx]
        refine ⟨⟨hU.at _, hU.at _, hU.at _, hU.at _⟩, ?_⟩
        unfold resF at hr
        split at hr
        · injection hr with hr
          rw [← hr]
          have := up_len (wF b (p1 + rdv b (p1 + 2 + 6 * (i : Nat) + 4))) mxW
          have := mxW_eq
          show (upL _ mxW).length ≤ 65536
          omega
        · cases hr

theorem feats_all (N : Nat) (b : List Int) (p1 p2 : Int) (hU : U8 b) (hb : b.length ≤ 3000) (hN : 1000000 < N) :
    ∃ l e q', qFeats N b false p1 p2 = some (l, e, q') ∧ rFeats N b p1 p2 = some (l, e) ∧ l.length ≤ 512 ∧ ∀ x ∈ l, goodF x := by
  unfold qFeats rFeats
  rw [word_eq N b false p1 hU (by omega), Option.bind_some, num2_eq N b p1 hU (by omega) (by omega), Option.bind_some, all_eq N b p1 2 (by omega), has21]
  have hr := rdv_in hU p1
  cases h2 : hasB b p1 1 2 with
  | false =>
    refine ⟨[], 50, true, rfl, rfl, Nat.zero_le _, fun x hx => by cases hx⟩
  | true =>
    have hp : 0 ≤ p1 ∧ (0 : Int) ≤ 1 ∧ p1 + 2 * 1 ≤ (b.length : Int) := of_decide_eq_true h2
    obtain ⟨n, hn⟩ : ∃ n : Nat, rdv b p1 = (n : Int) := ⟨(rdv b p1).toNat, by omega⟩
    rw [hn]
    simp only [Bool.not_true, Bool.or_false, qBad, Option.bind_some]
    rw [zw64 (x := ((n : Nat) : Int)) (by omega) (by omega)]
    by_cases h5 : n > 512
    · rw [if_pos (by omega), if_pos (by omega)]
      exact ⟨[], 50, false, rfl, rfl, Nat.zero_le _, fun x hx => by cases hx⟩
    · rw [if_neg (by omega), if_neg (by omega)]
      simp only [Option.bind_some]
      rw [zw64 (x := (6 : Int) * (n : Int)) (by omega) (by omega), zw64 (x := (2 : Int) + 6 * (n : Int)) (by omega) (by omega), all_eq N b p1 _ (by omega), Option.bind_some]
      by_cases hw : p1 + 2 + 6 * (n : Int) ≤ (b.length : Int)
      · have ha : hasB b p1 (2 + 6 * (n : Int)) 1 = true := by unfold hasB; exact decide_eq_true (by omega)
        rw [ha]
        simp only [Option.bind_some]
        obtain ⟨g1, g2⟩ := prog_in N b p1 p2 n hU hb hN (by omega) (by omega) hw N 0 [] (by omega) (Nat.zero_le _) (Nat.le_refl _)
        have d := doc_in N b p1 p2 n hU hb hN (by omega) (by omega) hw N 0 [] (by omega) (Nat.zero_le _) (Nat.le_refl _)
        have d' : rFeats_L1 N b p1 p2 (n : Int) N [] 0 = _ := d
        rw [d']
        cases hs : specF b p1 p2 (n - 0) 0 [] with
        | some l =>
          obtain ⟨k1, k2⟩ := g1 l hs
          have k1' : qFeats_L1 N b p1 p2 (n : Int) N false [] 0 = _ := k1
          rw [k1']
          exact ⟨l, 0, false, rfl, rfl, by omega, spec_good b p1 p2 hU _ _ _ l hs (fun x hx => by cases hx)⟩
        | none =>
          obtain ⟨q', k1⟩ := g2 hs
          have k1' : qFeats_L1 N b p1 p2 (n : Int) N false [] 0 = _ := k1
          rw [k1']
          exact ⟨[], 50, q', rfl, rfl, Nat.zero_le _, fun x hx => by cases hx⟩
      · have ha : hasB b p1 (2 + 6 * (n : Int)) 1 = false := by unfold hasB; exact decide_eq_false (by omega)
        rw [ha]
        obtain ⟨q', k1⟩ := prog_out N b p1 p2 n hU hb hN (by omega) (by omega) hw N 0 [] (by omega) (by omega) (Nat.le_refl _)
        have k1' : qFeats_L1 N b p1 p2 (n : Int) N false [] 0 = _ := k1
        rw [k1']
        exact ⟨[], 50, q', rfl, rfl, Nat.zero_le _, fun x hx => by cases hx⟩

theorem cov_L1 (N : Nat) (l : List Fe) (hl : l.length ≤ 512) (hg : ∀ x ∈ l, goodF x) (hN : 1000000 < N) : ∀ (k i : Nat), l.length - i < k → fCov_L1 N l l k (i : Int) = some (Ctl.go ()) := by
  intro k
  induction k with
  | zero => intro i h; omega
  | succ k ih =>
    intro i h
    unfold fCov_L1
    by_cases hi : i < l.length
    · obtain ⟨g1, g2⟩ := hg _ (List.getElem_mem hi)
      have hx : ixg l (i : Int) = some l[i] := by unfold ixg; rw [if_pos (by omega)]; simp [hi]
      have hne : neTag l[i].1 l[i].1 = some false := by
        unfold neTag eqTag
        rw [if_pos ⟨g1, g1⟩]
        simp
      rw [if_pos (by omega), hx]
      simp only [Option.bind_some]
      show (neTag l[i].1 l[i].1).bind _ = _
      rw [hne]
      simp only [Option.bind_some]
      rw [same_q N _ (by omega) (by omega)]
      simp only [Option.bind_some]
      rw [zwp i (by omega)]
      exact ih (i + 1) (by omega)
    · rw [if_neg (by omega)]
theorem fCov_true (p0 : List Int) (p1 p2 : Int) (hU : ∀ x ∈ p0, 0 ≤ x ∧ x ≤ 255) : ∃ N, fCov N p0 p1 p2 = some true := by
  refine ⟨2000000, ?_⟩
  have hw := works_t
  generalize hN : (2000000 : Nat) = N at hw ⊢
  unfold fCov
  by_cases h : p0.length > 3000
  · rw [if_pos (by omega), hw]; rfl
  · rw [if_neg (by omega), open_q N p0 (by omega), Option.bind_some]
    simp only
    obtain ⟨l, e, q', e1, e2, e3, e4⟩ := feats_all N p0 p1 p2 hU (by omega) (by omega)
    rw [e1, Option.bind_some]
    simp only
    rw [e2, Option.bind_some]
    simp only
    rw [if_neg (by simp), if_neg (by simp)]
    simp only [Option.bind_some]
    have hL := cov_L1 N l e3 e4 (by omega) N 0 (by omega)
    have hL' : fCov_L1 N l l N 0 = some (Ctl.go ()) := hL
    rw [hL']
    simp only [Option.bind_some]
    rw [hw]
    rfl
end Go.Proofs.Ytcleaepcjbfmhaa
