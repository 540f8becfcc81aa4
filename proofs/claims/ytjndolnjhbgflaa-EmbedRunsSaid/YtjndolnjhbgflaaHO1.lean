/-
  An initiator and its PDI have one level.
-/
import Derived.Test.YtjndolnjhbgflaaH5
namespace Go.Proofs.Ytjndolnjhbgflaa
open Go Go.RowKit
set_option linter.unusedVariables false
set_option linter.unusedSectionVars false
set_option linter.unusedSimpArgs false

theorem close_bal : ∀ (r : List Int) (d o : Nat), closeR (d + 1) r = some o → balIn d (r.take o) ∧ o < r.length ∧ r.drop o = 23 :: r.drop (o + 1)
  | [], _, _, h => by cases h
  | c :: r, d, o, h => by
    by_cases h11 : c = 11
    · subst h11; rw [closeR_b] at h; cases h
    cases hc : isInit c with
    | true =>
      rw [closeR_init hc] at h
      obtain ⟨o', k1, rfl⟩ := Option.map_eq_some_iff.1 h
      obtain ⟨g1, g2, g3⟩ := close_bal r (d + 1) o' k1
      refine ⟨?_, by rw [List.length_cons]; omega, by rw [List.drop_succ_cons, List.drop_succ_cons]; exact g3⟩
      rw [List.take_succ_cons, balIn_cons, if_pos hc]
      exact ⟨h11, g1⟩
    | false =>
      by_cases h23 : c = 23
      · subst h23
        cases d with
        | zero =>
          rw [closeR_p1] at h
          injection h with h
          subst h
          exact ⟨rfl, by simp, rfl⟩
        | succ d =>
          rw [closeR_p (by omega)] at h
          obtain ⟨o', k1, rfl⟩ := Option.map_eq_some_iff.1 h
          obtain ⟨g1, g2, g3⟩ := close_bal r d o' k1
          refine ⟨?_, by rw [List.length_cons]; omega, by rw [List.drop_succ_cons, List.drop_succ_cons]; exact g3⟩
          rw [List.take_succ_cons, balIn_cons, if_neg (by decide), if_pos rfl]
          exact ⟨h11, g1⟩
      · rw [closeR_o h11 h23 hc] at h
        obtain ⟨o', k1, rfl⟩ := Option.map_eq_some_iff.1 h
        obtain ⟨g1, g2, g3⟩ := close_bal r d o' k1
        refine ⟨?_, by rw [List.length_cons]; omega, by rw [List.drop_succ_cons, List.drop_succ_cons]; exact g3⟩
        rw [List.take_succ_cons, balIn_cons, if_neg (by rw [hc]; decide), if_neg h23]
        exact ⟨h11, g1⟩

/-- an isolate of any kind, gone through -/
theorem iso_any (base : Int) (x : List Int) (c : Int) (hi : isInit c = true) (m : List Int) (hm : balIn 0 m) (s : Ms) :
    endM base s (c :: (m ++ [23])) x = s := by
  have hi' := hi
  rw [isInit_iff] at hi'
  rw [endM_cons, endM_app]
  obtain ⟨dir, hst⟩ : ∃ dir : Bool, (stepM base s c (rightw true 0 (m ++ [23] ++ x))).1 = if s.oi = 0 ∧ s.oe = 0 ∧ nextL (topL s.stk base) dir ≤ 125 then { s with stk := ⟨nextL (topL s.stk base) dir, 0, true⟩ :: s.stk, vi := s.vi + 1 } else { s with oi := s.oi + 1 } := by
    refine ⟨c == 21 || (c == 22 && rightw true 0 (m ++ [23] ++ x)), ?_⟩
    unfold stepM
    rw [if_neg (by omega), if_neg (by omega), if_neg (by omega), if_pos hi]
  rw [hst]
  split
  · rename_i hp
    obtain ⟨T', h1, h2, h3, h4⟩ := in_run base ([23] ++ x) ⟨nextL (topL s.stk base) dir, 0, true⟩ rfl s.stk s.vi m 0 { s with stk := ⟨nextL (topL s.stk base) dir, 0, true⟩ :: s.stk, vi := s.vi + 1 } [] hm rfl (by show 0 + s.oi = 0; omega) rfl
    generalize endM base { s with stk := ⟨nextL (topL s.stk base) dir, 0, true⟩ :: s.stk, vi := s.vi + 1 } m ([23] ++ x) = t at h1 h2 h3 h4
    rw [endM_cons]
    unfold endM stepM
    rw [if_neg (by decide), if_pos rfl]
    simp only
    rw [if_neg (by omega), if_pos (by omega), h1, pop_out _ rfl _ _ h2, h4]
    obtain ⟨a, b, c, d⟩ := s
    simp at hp ⊢
    omega
  · have h1 := over_run base ([23] ++ x) m 0 { s with oi := s.oi + 1 } s.oi hm rfl
    rw [h1]
    rw [endM_cons]
    unfold endM stepM
    rw [if_neg (by decide), if_pos rfl]
    simp only
    rw [if_pos (by omega)]
    obtain ⟨a, b, c, d⟩ := s
    rfl

theorem step_lev_init (base : Int) (s : Ms) (c : Int) (f : Bool) (hi : isInit c = true) : ∃ k, (stepM base s c f).2 = some (topL s.stk base, k) := by
  have hi' := hi
  rw [isInit_iff] at hi'
  unfold stepM
  rw [if_neg (by omega), if_neg (by omega), if_neg (by omega), if_pos hi]
  exact ⟨_, rfl⟩
theorem step_lev_pdi (base : Int) (s : Ms) (f : Bool) : ∃ k, (stepM base s 23 f).2 = some (topL (stepM base s 23 f).1.stk base, k) := ⟨_, rfl⟩

theorem run_at (base : Int) (a : List Int) (c : Int) (x : List Int) (s : Ms) (p v k : Int) (h : (stepM base (endM base s a (c :: x)) c (rightw true 0 x)).2 = some (v, k)) : ((runM base s p (a ++ c :: x)).map Prod.fst).getD a.length 0 = v := by
  rw [run_app, List.map_append, List.getD_eq_getElem?_getD, List.getElem?_append_right (by rw [List.length_map, outM_len]; exact Nat.le_refl _), List.length_map, outM_len, Nat.sub_self, runM_cons, h]
  rfl

theorem lev_pair (base : Int) (l : List Int) (s : Ms) (p : Int) (i v : Nat) (h : cl l i = some v) : ((runM base s p l).map Prod.fst).getD i 0 = ((runM base s p l).map Prod.fst).getD v 0 := by
  have h' := h
  obtain ⟨hi, h1, h2, _⟩ := cl_at h'
  unfold cl at h
  rw [if_pos hi] at h
  obtain ⟨o, k1, rfl⟩ := Option.map_eq_some_iff.1 h
  obtain ⟨g1, g2, g3⟩ := close_bal _ 0 o k1
  have hil : i < l.length := by omega
  -- the row, cut
  obtain ⟨a, m, x, ha, hm, hl⟩ : ∃ a m x, a.length = i ∧ m.length = o ∧ l = a ++ l.getD i 0 :: (m ++ 23 :: x) ∧ balIn 0 m := by
    refine ⟨l.take i, (l.drop (i + 1)).take o, (l.drop (i + 1)).drop (o + 1), by rw [List.length_take]; omega, by rw [List.length_take]; omega, ?_, g1⟩
    rw [← g3, List.take_append_drop, ← drop_e hil, List.take_append_drop]
  obtain ⟨hl, hb⟩ := hl
  generalize l.getD i 0 = c at hi hl
  obtain ⟨k, e1⟩ := step_lev_init base (endM base s a (c :: (m ++ 23 :: x))) c (rightw true 0 (m ++ 23 :: x)) hi
  have r1 := run_at base a c (m ++ 23 :: x) s p _ _ e1
  obtain ⟨k', e2⟩ := step_lev_pdi base (endM base s (a ++ c :: m) (23 :: x)) (rightw true 0 x)
  have r2 := run_at base (a ++ c :: m) 23 x s p _ _ e2
  have hs : (stepM base (endM base s (a ++ c :: m) (23 :: x)) 23 (rightw true 0 x)).1 = endM base s a (c :: (m ++ 23 :: x)) := by
    have := iso_any base x c hi m hb (endM base s a (c :: (m ++ 23 :: x)))
    rw [show c :: (m ++ [23]) = (c :: m) ++ [23] from rfl, endM_app] at this
    rw [endM_app]
    exact this
  rw [hs] at r2
  have hlen : (a ++ c :: m).length = i + 1 + o := by rw [List.length_append, List.length_cons]; omega
  rw [ha] at r1
  rw [hlen, List.append_assoc] at r2
  rw [hl, r1]
  exact r2.symm

theorem ok_nn {base : Int} (hb : 0 ≤ base) : ∀ (l : List Int) (p : Int) (o : List (Int × Int)), okRow base p l o → ∀ y ∈ o.map Prod.fst, 0 ≤ y
  | [], _, [], _, y, h => by cases h
  | [], _, _ :: _, h, _, _ => absurd h (by intro h; exact h)
  | _ :: _, _, [], h, _, _ => absurd h (by intro h; exact h)
  | c :: r, p, (v, k) :: o, h, y, hy => by
    obtain ⟨h1, _, _, _, _, h6⟩ := h
    rcases List.mem_cons.1 hy with e | hy
    · rw [e]; show 0 ≤ v; omega
    · exact ok_nn hb r v o h6 y hy
theorem lev_nn {base : Int} (hb : 0 ≤ base ∧ base ≤ 1) (l : List Int) : ∀ y ∈ (runM base (ms0 base) base l).map Prod.fst, 0 ≤ y :=
  ok_nn hb.1 l base _ (run_ok hb l (ms0 base) base (good0 hb) (Int.le_refl _) (by omega))

/-- on a way the level stays -/
theorem sc_lev (l : List Int) (base b : Int) (s : Ms) (p : Int) : ∀ k j, scI l ((runM base s p l).map Prod.fst) b k = some j → lvN l ((runM base s p l).map Prod.fst) b k = lvN l ((runM base s p l).map Prod.fst) b j := by
  intro k j h
  have hj := (sc_lt k j h).2
  obtain ⟨hk, hc⟩ := sc_two h
  by_cases hon : onB l ((runM base s p l).map Prod.fst) b k = true
  · have := h
    unfold scI at this
    rw [if_pos hk, if_pos hon] at this
    injection this with this
    unfold onB at hon
    rw [← this]
    exact (of_decide_eq_true hon).2
  · rw [sc_end hk (by simpa using hon)] at h
    cases hv : cl l (plP l k) with
    | none => rw [hv] at h; cases h
    | some v =>
      rw [hv] at h
      have h : (if begB l ((runM base s p l).map Prod.fst) b (cnt l v) = true then some (cnt l v) else none) = some j := h
      obtain ⟨c1, c2, c3⟩ := cl_cnt hk hv
      split at h
      · injection h with h
        subst h
        unfold lvN
        rw [if_pos hk, if_pos c2, c3]
        exact lev_pair base l s p _ _ hv
      · cases h
end Go.Proofs.Ytjndolnjhbgflaa
