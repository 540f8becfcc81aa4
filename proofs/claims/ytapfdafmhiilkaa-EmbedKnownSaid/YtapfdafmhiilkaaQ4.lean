/-
  The program's Levels is the document's.
-/
import Derived.Test.YtapfdafmhiilkaaQ3
namespace Go.Proofs.Ytapfdafmhiilkaa
open Go Go.RowKit
set_option linter.unusedVariables false
set_option linter.unusedSectionVars false
set_option linter.unusedSimpArgs false

theorem rightw_to (N : Nat) (l : List Int) (i : Nat) (hl : l.length ≤ 100000000) (hN : l.length < N) (hi : i < l.length) :
    ∃ (e : Nat), (if mtS l i < 0 then some ((l.length : Nat) : Int) else some (mtS l i)) = some (e : Int) ∧ ∃ r, pStrong N l (matchS l) ((i + 1 : Nat) : Int) (e : Int) = some r ∧ decide (r = 2 ∨ r = 3) = rightw true 0 (l.drop (i + 1)) := by
  unfold mtS
  cases ho : closeR 1 (l.drop (i + 1)) with
  | none =>
    refine ⟨l.length, rfl, ?_⟩
    exact pStrong_eq N l true (i + 1) l.length (by omega) (Nat.le_refl _) hN (.inl ⟨rfl, fun _ => ho⟩)
  | some o =>
    have hol := (close_at _ _ _ ho).2
    rw [List.length_drop] at hol
    refine ⟨i + 1 + o, by simp only; rw [if_neg (by omega)], ?_⟩
    exact pStrong_eq N l true (i + 1) (i + 1 + o) (by omega) (by omega) hN (.inr ⟨rfl, by omega, by omega, by rw [ho]; congr 1; omega⟩)

/-- what a round makes of a state -/
def outOf (p : Int) (o : Option (Int × Int)) : Int × Int := o.getD (p, 10)

section
variable {N : Nat} {l lv cl : List Int} {base : Int} {i k : Nat} {s : Ms}

def LW (N : Nat) (l : List Int) (base : Int) (k : Nat) (s : Ms) (lv cl : List Int) (i : Nat) : Option (List (Int × Int × Bool) × Int × Int × Int × List Int × List Int) :=
  pWalked_L1 N l base (matchS l) k (stT s.stk) (s.vi : Int) (s.oi : Int) (s.oe : Int) lv cl (i : Int)

theorem LW_step (hb : 0 ≤ base ∧ base ≤ 1) (hl : l.length ≤ 100000000) (hN : l.length + 1 < N) (h : InvM base i s) (hi : i < l.length) (h1 : lv.length = l.length) (h2 : cl.length = l.length) (hcl : cl.getD i 0 = l.getD i 0) (hok : okC (l.getD i 0) = true) :
    LW N l base (k + 1) s lv cl i = LW N l base k (stepM base s (l.getD i 0) (rightw true 0 (l.drop (i + 1)))).1 (lv.set i (outOf (aheadL base lv i) (stepM base s (l.getD i 0) (rightw true 0 (l.drop (i + 1)))).2).1) (cl.set i (outOf (aheadL base lv i) (stepM base s (l.getD i 0) (rightw true 0 (l.drop (i + 1)))).2).2) (i + 1) := by
  have hne : s.stk ≠ [] := by obtain ⟨e, r, he⟩ := botOk_ne h.bot; rw [he]; simp
  have ht := topL_in h.good.lev (by omega)
  have ht' : 0 ≤ topL s.stk base ∧ topL s.stk base ≤ 125 := ⟨by omega, ht.2⟩
  obtain ⟨g1, g2, g3, g4, g5, g6, g7⟩ := h
  unfold LW
  conv => lhs; unfold pWalked_L1
  rw [if_pos (by omega), ixe hi, Option.bind_some]
  have hfsi := rightw_to N l i hl (by omega) hi
  have hmt : isInit (l.getD i 0) = true → ix (matchS l) (i : Int) = some (mtS l i) := fun hin => by rw [ixe (by rw [matchS_len]; exact hi), matchS_at l i hi hin]
  have hok' : 1 ≤ l.getD i 0 ∧ l.getD i 0 ≤ 23 := by simpa [okC] using hok
  generalize rightw true 0 (l.drop (i + 1)) = f at hfsi ⊢
  generalize hc : l.getD i 0 = c at hcl hok' hmt ⊢
  have hlv : i < lv.length := by omega
  have hcv : i < cl.length := by omega
  by_cases c1 : c = 1 ∨ c = 2 ∨ c = 3 ∨ c = 4 ∨ c = 5 ∨ c = 6 ∨ c = 7 ∨ c = 8 ∨ c = 9 ∨ c = 12 ∨ c = 13 ∨ c = 14
  · rw [if_pos c1, pStand_eq (base := base) s.stk hne _ _ _ c hlv hcv hcl, Option.bind_some]
    dsimp only
    rw [wne i (by omega)]
    rw [step_O base s c f (by omega) (by omega) (by cases hr : isRem c with | false => rfl | true => rw [isRem_iff] at hr; omega) (by cases hr : isInit c with | false => rfl | true => rw [isInit_iff] at hr; omega)]
    rfl
  rw [if_neg c1]
  by_cases c2 : c = 10
  · subst c2
    rw [if_pos rfl, pRemove_eq (base := base) _ _ _ _ hlv hcv (by omega), Option.bind_some]
    dsimp only
    rw [wne i (by omega)]
    rfl
  rw [if_neg c2]
  by_cases c3 : c = 11
  · subst c3
    rw [if_pos rfl, wne i (by omega)]
    unfold pAgain
    rw [ixe hlv, Option.bind_some, setxe _ hlv, Option.bind_some]
    have hcs : cl.set i 11 = cl := by
      apply List.ext_getElem?
      intro m
      rw [List.getElem?_set]
      split
      · rename_i e1; subst e1
        rw [← hcl, List.getD_eq_getElem?_getD, List.getElem?_eq_getElem hcv]; simp
      · rfl
    show pWalked_L1 N l base (matchS l) k (stT (ms0 base).stk) 0 0 0 (lv.set i base) cl _ = pWalked_L1 N l base (matchS l) k (stT (ms0 base).stk) 0 0 0 (lv.set i base) (cl.set i 11) _
    rw [hcs]
  rw [if_neg c3]
  have emb : ∀ (side ovr : Int), isEmb c = true → decide (side = 2) = (c == 16 || c == 18) → ovrOf c = ovr →
      (pEmbed N (stT s.stk) (s.vi : Int) (s.oi : Int) (s.oe : Int) l (matchS l) base lv cl (i : Int) side ovr) = some (stT (stepM base s c f).1.stk, ((stepM base s c f).1.oe : Int), lv.set i (outOf (aheadL base lv i) (stepM base s c f).2).1, cl.set i (outOf (aheadL base lv i) (stepM base s c f).2).2) ∧
      (stepM base s c f).1.vi = s.vi ∧ (stepM base s c f).1.oi = s.oi := by
    intro side ovr he hs ho
    unfold pEmbed
    rw [pRemove_eq (base := base) _ _ _ _ hlv hcv (by omega), Option.bind_some]
    dsimp only
    rw [pBegE_eq (base := base) s.stk hne ht' _ _ _ (by omega), step_E base s c f he, hs, ho]
    split
    · exact ⟨rfl, rfl, rfl⟩
    · split <;> exact ⟨rfl, rfl, rfl⟩
  by_cases c4 : c = 15
  · subst c4
    obtain ⟨e1, e2, e3⟩ := emb 1 0 rfl rfl rfl
    unfold pEmL
    rw [if_pos rfl, e1]
    simp only [Option.bind_some]
    rw [wne i (by omega), e2, e3]
  rw [if_neg c4]
  by_cases c5 : c = 16
  · subst c5
    obtain ⟨e1, e2, e3⟩ := emb 2 0 rfl rfl rfl
    unfold pEmR
    rw [if_pos rfl, e1]
    simp only [Option.bind_some]
    rw [wne i (by omega), e2, e3]
  rw [if_neg c5]
  by_cases c6 : c = 17
  · subst c6
    obtain ⟨e1, e2, e3⟩ := emb 1 1 rfl rfl rfl
    unfold pOvL
    rw [if_pos rfl, e1]
    simp only [Option.bind_some]
    rw [wne i (by omega), e2, e3]
  rw [if_neg c6]
  by_cases c7 : c = 18
  · subst c7
    obtain ⟨e1, e2, e3⟩ := emb 2 2 rfl rfl rfl
    unfold pOvR
    rw [if_pos rfl, e1]
    simp only [Option.bind_some]
    rw [wne i (by omega), e2, e3]
  rw [if_neg c7]
  by_cases c8 : c = 19
  · subst c8
    unfold pLeE
    rw [if_pos rfl, pRemove_eq (base := base) _ _ _ _ hlv hcv (by omega), Option.bind_some]
    dsimp only
    rw [pEndE_eq (base := base) s g2 (by omega)]
    simp only [Option.bind_some]
    rw [wne i (by omega)]
    have e0 : stepM base s 19 f = stepM base s 19 false := rfl
    rw [e0]
    have e2 : (stepM base s 19 false).1.vi = s.vi ∧ (stepM base s 19 false).1.oi = s.oi ∧ (stepM base s 19 false).2 = none := by
      rw [step_F]
      split
      · exact ⟨rfl, rfl, rfl⟩
      split
      · exact ⟨rfl, rfl, rfl⟩
      split
      · split <;> exact ⟨rfl, rfl, rfl⟩
      · exact ⟨rfl, rfl, rfl⟩
    rw [e2.1, e2.2.1, e2.2.2]
    rfl
  rw [if_neg c8]
  have ini : ∀ (side : Int), isInit c = true → decide (side = 2) = (c == 21 || (c == 22 && f)) →
      (pIsol N (stT s.stk) (s.vi : Int) (s.oi : Int) (s.oe : Int) l (matchS l) base lv cl (i : Int) side) = some (stT (stepM base s c f).1.stk, ((stepM base s c f).1.vi : Int), ((stepM base s c f).1.oi : Int), lv.set i (outOf (aheadL base lv i) (stepM base s c f).2).1, cl.set i (outOf (aheadL base lv i) (stepM base s c f).2).2) ∧
      (stepM base s c f).1.oe = s.oe := by
    intro side he hs
    unfold pIsol
    rw [pStand_eq (base := base) s.stk hne _ _ _ c hlv hcv hcl, Option.bind_some]
    dsimp only
    rw [pBegI_eq (base := base) s.stk hne ht' _ _ _ (by omega) (by omega), step_I base s c f he, hs]
    split
    · exact ⟨rfl, rfl⟩
    · exact ⟨rfl, rfl⟩
  by_cases c9 : c = 20
  · subst c9
    obtain ⟨e1, e2⟩ := ini 1 rfl rfl
    unfold pIsL
    rw [if_pos rfl, e1]
    simp only [Option.bind_some]
    rw [wne i (by omega), e2]
  rw [if_neg c9]
  by_cases c10 : c = 21
  · subst c10
    obtain ⟨e1, e2⟩ := ini 2 rfl rfl
    unfold pIsR
    rw [if_pos rfl, e1]
    simp only [Option.bind_some]
    rw [wne i (by omega), e2]
  rw [if_neg c10]
  by_cases c11 : c = 22
  · subst c11
    unfold pIsT
    rw [if_pos rfl, hmt rfl, Option.bind_some]
    obtain ⟨e, f1, r, f2, f3⟩ := hfsi
    rw [f1, Option.bind_some, wne i (by omega), f2, Option.bind_some, pRw_eq, Option.bind_some, f3]
    cases f with
    | true =>
      obtain ⟨e1, e2⟩ := ini 2 rfl rfl
      simp only [e1, Option.bind_some]
      rw [e2]
    | false =>
      obtain ⟨e1, e2⟩ := ini 1 rfl rfl
      simp only [e1, Option.bind_some]
      rw [e2]
  rw [if_neg c11]
  obtain rfl : c = 23 := by omega
  rw [if_pos rfl]
  unfold pLeI
  rw [pEndI_eq (base := base) s g2 g3 (by omega) (by omega) (by omega), Option.bind_some]
  dsimp only
  have e0 : stepM base s 23 f = stepM base s 23 false := rfl
  have hi2 := step_inv hb ⟨g1, g2, g3, g4, g5, g6, g7⟩ 23 false
  have hne2 : (stepM base s 23 false).1.stk ≠ [] := by obtain ⟨e, r, he⟩ := botOk_ne hi2.bot; rw [he]; simp
  have ho : (stepM base s 23 false).2 = some (topL (stepM base s 23 false).1.stk base, clsO (stepM base s 23 false).1.stk 23) := by
    by_cases k1 : 0 < s.oi
    · rw [step_P0 base s false k1]
    by_cases k2 : 0 < s.vi
    · rw [step_P1 base s false (by omega) k2]
    · rw [step_P2 base s false (by omega) (by omega)]
  rw [pStand_eq (base := base) _ hne2 _ _ _ 23 hlv hcv hcl]
  simp only [Option.bind_some]
  rw [wne i (by omega), e0, ho]
  rfl

theorem LW_run (hb : 0 ≤ base ∧ base ≤ 1) (hl : l.length ≤ 100000000) (hN : l.length + 1 < N) (hok : l.all okC = true) : ∀ (n i k : Nat) (s : Ms) (lv cl : List Int), i + n = l.length → n < k → InvM base i s → lv.length = l.length → cl.length = l.length → cl.drop i = l.drop i →
    ∃ a b c d, LW N l base k s lv cl i = some (a, b, c, d, lv.take i ++ (runM base s (aheadL base lv i) (l.drop i)).map Prod.fst, cl.take i ++ (runM base s (aheadL base lv i) (l.drop i)).map Prod.snd)
  | 0, i, 0, _, _, _, _, h, _, _, _, _ => absurd h (Nat.not_lt_zero _)
  | _ + 1, i, 0, _, _, _, _, h, _, _, _, _ => absurd h (Nat.not_lt_zero _)
  | 0, i, k + 1, s, lv, cl, h, _, _, h1, h2, _ => by
    unfold LW pWalked_L1
    rw [if_neg (by omega), List.drop_eq_nil_of_le (by omega), List.take_of_length_le (by omega), List.take_of_length_le (by omega)]
    exact ⟨_, _, _, _, by simp [runM]; exact ⟨rfl, rfl, rfl, rfl⟩⟩
  | n + 1, i, k + 1, s, lv, cl, h, hk, hinv, h1, h2, hd => by
    have hi : i < l.length := by omega
    have hd' := hd
    rw [drop_e hi, drop_e (show i < cl.length by omega)] at hd'
    injection hd' with hd1 hd2
    have hoc : okC (l.getD i 0) = true := by
      rw [List.all_eq_true] at hok
      rw [List.getD_eq_getElem?_getD, List.getElem?_eq_getElem hi]
      exact hok _ (List.getElem_mem hi)
    rw [LW_step hb hl hN hinv hi h1 h2 hd1 hoc]
    have hi2 := step_inv hb hinv (l.getD i 0) (rightw true 0 (l.drop (i + 1)))
    rw [drop_e hi, runM_cons]
    generalize hst : stepM base s (l.getD i 0) (rightw true 0 (l.drop (i + 1))) = t at hi2 ⊢
    generalize hvq : outOf (aheadL base lv i) t.2 = vq
    obtain ⟨a, b, c, d, e⟩ := LW_run hb hl hN hok n (i + 1) k t.1 (lv.set i vq.1) (cl.set i vq.2) (by omega) (by omega) hi2 (by simp [h1]) (by simp [h2]) (by rw [List.drop_set_of_lt (by omega)]; exact hd2)
    refine ⟨a, b, c, d, e.trans ?_⟩
    have hah : aheadL base (lv.set i vq.1) (i + 1) = vq.1 := by
      unfold aheadL
      rw [if_neg (by omega), Nat.add_sub_cancel, List.getD_eq_getElem?_getD, List.getElem?_set_self (by omega)]; rfl
    rw [hah, take_succ_set _ _ _ (by omega), take_succ_set _ _ _ (by omega)]
    obtain ⟨t1, t2⟩ := t
    subst hvq
    cases t2 with
    | none => simp [outOf]
    | some o => simp [outOf]
end

theorem pClone_eq (N : Nat) (l : List Int) (hl : l.length ≤ 1000000000) : pClone N l = some l := by
  unfold pClone pCloneS apx
  rw [if_pos (by simpa using hl)]; rfl

theorem pWalked_eq (N : Nat) (l : List Int) (base : Int) (hb : 0 ≤ base ∧ base ≤ 1) (hl : l.length ≤ 100000000) (hN : l.length + 1 < N) (hok : l.all okC = true) :
    pWalked N l base = some ((runM base (ms0 base) base l).map Prod.fst, (runM base (ms0 base) base l).map Prod.snd) := by
  unfold pWalked pStackOf pDoings
  simp only [Option.bind_some, pMatch_eq N l (by omega) (by omega), mkx_nat l.length (show l.length ≤ 1000000000 by omega), pClone_eq N l (by omega)]
  obtain ⟨a, b, c, d, e⟩ := LW_run (l := l) hb hl hN hok l.length 0 N (ms0 base) (List.replicate l.length 0) l (by omega) (by omega) (inv0 hb 0) (by simp) rfl rfl
  have e' : pWalked_L1 N l base (matchS l) N ((base, 0, false) :: ([] : List (Int × Int × Bool))) 0 0 0 (List.replicate l.length 0) l 0 = some (a, b, c, d, (runM base (ms0 base) base l).map Prod.fst, (runM base (ms0 base) base l).map Prod.snd) := by
    unfold LW at e
    rw [List.take_zero, List.take_zero, List.nil_append, List.nil_append, List.drop_zero] at e
    exact e
  rw [e']
  rfl

theorem pIdx_loop (N : Nat) (l : List Int) (hl : l.length ≤ 400000000) : ∀ (k i : Nat), l.length - i < k → i ≤ l.length → ∃ r, pIdx_L1 N l k (i : Int) = some r ∧ match r with | Ctl.go () => (l.drop i).all okC = true | Ctl.ret x => 0 ≤ x ∧ (l.drop i).all okC = false
  | 0, _, h, _ => absurd h (Nat.not_lt_zero _)
  | k + 1, i, hk, hi => by
    unfold pIdx_L1
    by_cases hn : i < l.length
    · rw [if_pos (by omega), ixe hn, Option.bind_some, drop_e hn]
      have hu : pUnk N (l.getD i 0) = some (!okC (l.getD i 0)) := by
        unfold pUnk okC
        generalize l.getD i 0 = c
        by_cases h1 : c < 1
        · rw [if_pos h1, decide_eq_false (by omega)]; rfl
        · rw [if_neg h1]
          by_cases h2 : c > 23
          · rw [decide_eq_true h2, decide_eq_false (by omega)]; rfl
          · rw [decide_eq_false h2, decide_eq_true (by omega)]; rfl
      rw [hu, Option.bind_some]
      cases ho : okC (l.getD i 0) with
      | false =>
        exact ⟨_, rfl, by omega, by rw [List.all_cons, ho]; rfl⟩
      | true =>
        simp only [Bool.not_true]
        rw [wne i (by omega)]
        obtain ⟨r, h1, h2⟩ := pIdx_loop N l hl k (i + 1) (by omega) (by omega)
        refine ⟨r, h1, ?_⟩
        rw [List.all_cons, ho, Bool.true_and]
        exact h2
    · rw [if_neg (by omega), List.drop_eq_nil_of_le (by omega)]
      exact ⟨_, rfl, rfl⟩

theorem pHas_eq (N : Nat) (l : List Int) (hl : l.length ≤ 400000000) (hN : l.length < N) : pHas N l = some (!l.all okC) := by
  unfold pHas pIdx
  obtain ⟨r, h1, h2⟩ := pIdx_loop N l hl N 0 (by omega) (Nat.zero_le _)
  rw [show (0 : Int) = ((0 : Nat) : Int) from rfl, h1]
  rw [List.drop_zero] at h2
  cases r with
  | go u => simp only at h2; rw [h2]; rfl
  | ret x =>
    simp only at h2
    rw [h2.2]
    simp only [Option.bind_some]
    rw [decide_eq_true (show x ≥ ((0 : Nat) : Int) by omega)]; rfl

theorem pLevels_eq (N : Nat) (l : List Int) (b : Int) (hb : 0 ≤ b ∧ b ≤ 255) (hl : l.length ≤ 100000000) (hN : l.length + 2 < N) : pLevels N l b = some (levelsS l b) := by
  unfold pLevels levelsS
  by_cases h1 : 65536 < l.length
  · rw [if_pos (by omega), if_pos h1]
  rw [if_neg (by omega), if_neg h1]
  by_cases h2 : b > 2
  · rw [if_pos h2]
    simp only [Option.bind_some]
    split
    · rfl
    · rfl
  rw [if_neg h2, pHas_eq N l (by omega) (by omega), Option.bind_some]
  cases hok : l.all okC with
  | false => rfl
  | true =>
    have hbs : 0 ≤ baseS l b ∧ baseS l b ≤ 1 := by
      unfold baseS
      split
      · split <;> omega
      · omega
    have h4 : (if b = 2 then (pBase N l).bind fun x47 => some x47 else some b : Option Int) = some (baseS l b) := by
      unfold baseS
      by_cases h3 : b = 2
      · rw [if_pos h3, if_pos h3, pBase_eq N l hl (by omega)]; rfl
      · rw [if_neg h3, if_neg h3]
    simp only [Bool.not_true, Option.bind_some, h4, pWalked_eq N l _ hbs hl (show l.length + 1 < N by omega) hok]
    rw [if_neg (show ¬ 2 < b by omega)]
    rfl
end Go.Proofs.Ytapfdafmhiilkaa
