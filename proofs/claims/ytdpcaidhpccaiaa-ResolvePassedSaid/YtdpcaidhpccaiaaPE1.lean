/-
  The last weak rules in one pass, by lists; what landed is the document's.
-/
import Derived.Test.YtdpcaidhpccaiaaPE0
namespace Go.Proofs.Ytdpcaidhpccaiaa
open Go Go.RowKit
set_option linter.unusedVariables false
set_option linter.unusedSectionVars false
set_option linter.unusedSimpArgs false

/-- W4 of one class -/
def betwH (p c : Int) : List Int → Int
  | [] => c
  | d :: _ => betw p c d
theorem w4S_cons (p c : Int) (r : List Int) : w4S p (c :: r) = betwH p c r :: w4S (betwH p c r) r := by
  cases r with
  | nil => rfl
  | cons d r => rfl
theorem betw_same {p c d : Int} (h5 : c ≠ 5) (h8 : c ≠ 8) : betw p c d = c := by
  unfold betw
  rw [if_neg (by omega)]
theorem betwH_same {p c : Int} (r : List Int) (h5 : c ≠ 5) (h8 : c ≠ 8) : betwH p c r = c := by
  cases r with
  | nil => rfl
  | cons d r => exact betw_same h5 h8
theorem betw_in (p c d : Int) : betw p c d = c ∨ betw p c d = 4 ∨ betw p c d = 7 := by
  unfold betw
  split
  · rename_i h; omega
  · exact .inl rfl
theorem betwH_in (p c : Int) (r : List Int) : betwH p c r = c ∨ betwH p c r = 4 ∨ betwH p c r = 7 := by
  cases r with
  | nil => exact .inl rfl
  | cons d r => exact betw_in p c d
theorem w4S_T (l : List Int) : w4S 0 l = w4T l := by
  cases l with
  | nil => rfl
  | cons c r =>
    rw [w4S_cons, w4T]
    have : betwH 0 c r = c := by
      cases r with
      | nil => rfl
      | cons d r => show betw 0 c d = c; unfold betw; rw [if_neg (by omega)]
    rw [this]

/-- W4 to W7 of a row, what stands ahead being known -/
def numS (s p q : Int) (l : List Int) : List Int := w7S s (w6S (w5S q (w4S p l)))

theorem numS_nil (s p q : Int) : numS s p q [] = [] := rfl
theorem numS_step {s p q c : Int} {r : List Int} (h : c ≠ 6) : numS s p q (c :: r) = settS (betwH p c r) s :: numS (if betwH p c r = 1 ∨ betwH p c r = 2 then betwH p c r else s) (betwH p c r) (betwH p c r) r := by
  have h6 : betwH p c r ≠ 6 := by have := betwH_in p c r; omega
  unfold numS
  rw [w4S_cons]
  generalize betwH p c r = x at h6 ⊢
  rw [w5S, if_neg (fun e => h6 e.1)]
  generalize w5S x (w4S x r) = Y
  show w7S s ((if x = 5 ∨ x = 6 ∨ x = 8 then 14 else x) :: w6S Y) = _
  rw [w7S]
  unfold settS
  by_cases hx : x = 5 ∨ x = 6 ∨ x = 8
  · rw [if_pos hx, if_pos hx, if_neg (by omega), if_neg (by omega), if_neg (by omega)]
  · rw [if_neg hx, if_neg hx]

theorem nextEN_w4 : ∀ (r : List Int), nextEN (w4S 6 r) = nextEN r
  | [] => rfl
  | c :: r => by
    have hb : betwH 6 c r = c := by
      cases r with
      | nil => rfl
      | cons d r => show betw 6 c d = c; unfold betw; rw [if_neg (by omega)]
    rw [w4S_cons, hb, nextEN, nextEN]
    by_cases h : c = 6
    · subst h; rw [if_pos rfl, if_pos rfl, nextEN_w4 r]
    · rw [if_neg h, if_neg h]
theorem w4S_run (rest : List Int) : ∀ (n : Nat) (p : Int), w4S p (List.replicate (n + 1) 6 ++ rest) = List.replicate (n + 1) 6 ++ w4S 6 rest
  | 0, p => by
    show w4S p (6 :: rest) = 6 :: w4S 6 rest
    rw [w4S_cons, betwH_same rest (by decide) (by decide)]
  | n + 1, p => by
    rw [List.replicate_succ, List.cons_append, w4S_cons, betwH_same _ (by decide) (by decide), w4S_run rest n 6]
    rfl
theorem w7S_run (s u : Int) (hu : u = 4 ∨ u = 14) (X : List Int) : ∀ n : Nat, w7S s (List.replicate n u ++ X) = List.replicate n (if u = 4 ∧ s = 1 then 1 else u) ++ w7S s X
  | 0 => rfl
  | n + 1 => by
    rw [List.replicate_succ, List.cons_append, w7S, if_neg (show ¬ (u = 1 ∨ u = 2) by omega), w7S_run s u hu X n]
    rfl
theorem w5S_head {q q' : Int} {X : List Int} (h : ∀ x r, X = x :: r → x ≠ 6) : w5S q X = w5S q' X := by
  cases X with
  | nil => rfl
  | cons x r => rw [w5S, w5S, if_neg (fun e => h x r rfl e.1), if_neg (fun e => h x r rfl e.1)]
theorem numS_run (s p q : Int) (yes : Bool) (rest : List Int) (hr : ∀ x r, rest = x :: r → x ≠ 6) (h : yes = true ↔ (q = 4 ∨ nextEN rest = true)) (n : Nat) :
    numS s p q (List.replicate (n + 1) 6 ++ rest) = List.replicate (n + 1) (settS (if yes = true then 4 else 6) s) ++ numS s 6 6 rest := by
  unfold numS
  rw [w4S_run, w5S_run yes (n + 1) q (w4S 6 rest) (by rw [nextEN_w4]; exact h) (fun e => h.2 (.inl e))]
  have hw : ∀ x r, w4S 6 rest = x :: r → x ≠ 6 := by
    cases rest with
    | nil => intro x r e; cases e
    | cons c rest =>
      intro x r e
      rw [w4S_cons] at e
      have := hr c rest rfl
      have h2 := betwH_in 6 c rest
      injection e with e1 _
      omega
  rw [w5S_head (q' := 6) hw]
  show w7S s ((List.replicate (n + 1) _ ++ _).map _) = _
  rw [List.map_append, List.map_replicate]
  show w7S s (List.replicate (n + 1) _ ++ w6S (w5S 6 (w4S 6 rest))) = _
  cases yes with
  | true => exact w7S_run s 4 (.inl rfl) _ (n + 1)
  | false => exact w7S_run s 14 (.inr rfl) _ (n + 1)

section
variable {N : Nat}

theorem pEndT_run (a : List Int) (hl : a.length ≤ 400000000) : ∀ (k i : Nat), a.length - i < k → i ≤ a.length →
    ∃ e : Nat, pEndT_L1 N a k (i : Int) = some (e : Int) ∧ i ≤ e ∧ e ≤ a.length ∧ (∀ j, i ≤ j → j < e → a.getD j 0 = 6) ∧ (e < a.length → a.getD e 0 ≠ 6)
  | 0, _, h, _ => absurd h (Nat.not_lt_zero _)
  | k + 1, i, hk, hi => by
    unfold pEndT_L1 pTerm
    by_cases h : i < a.length
    · rw [if_pos (by omega), ixe h, Option.bind_some, Option.bind_some]
      by_cases h6 : a.getD i 0 = 6
      · rw [decide_eq_true h6]
        show ∃ e : Nat, pEndT_L1 N a k (IntKind.i64.wrap ((i : Int) + 1)) = _ ∧ _
        rw [wne i (by omega)]
        obtain ⟨e, g1, g2, g3, g4, g5⟩ := pEndT_run a hl k (i + 1) (by omega) (by omega)
        refine ⟨e, g1, by omega, g3, fun j hj hj2 => ?_, g5⟩
        by_cases hji : j = i
        · rw [hji]; exact h6
        · exact g4 j (by omega) hj2
      · rw [decide_eq_false h6]
        exact ⟨i, rfl, Nat.le_refl _, by omega, fun j hj hj2 => by omega, fun _ => h6⟩
    · rw [if_neg (by omega)]
      exact ⟨i, rfl, Nat.le_refl _, hi, fun j hj hj2 => by omega, fun h' => absurd h' h⟩

theorem pNums_inner (p0 : List Int) (hl : p0.length ≤ 400000000) (hN : p0.length < N) (self : List Int → Int → Int → Int → Option (List Int)) (k0 : Nat)
    (hself : ∀ (i : Nat) (a : List Int) (s p : Int), p0.length - i < k0 → i ≤ p0.length → a.length = p0.length → self a s p (i : Int) = some (a.take i ++ numS s p p (a.drop i))) :
    ∀ (m i : Nat) (a : List Int) (s p : Int), p0.length - i < m → p0.length - i < k0 + 1 → i ≤ p0.length → a.length = p0.length →
      pNums_L2 N p0 self m a s p (i : Int) = some (a.take i ++ numS s p p (a.drop i))
  | 0, _, _, _, _, h, _, _, _ => absurd h (Nat.not_lt_zero _)
  | m + 1, i, a, s, p, hm, hk, hi, ha => by
    unfold pNums_L2
    by_cases h : i < p0.length
    · have hia : i < a.length := by omega
      rw [if_pos (by omega), ixe hia, Option.bind_some]
      have ih := fun a s p => pNums_inner p0 hl hN self k0 hself m (i + 1) a s p (by omega) (by omega) (by omega)
      have fin : ∀ (s2 c4 : Int), numS s p p (a.drop i) = settS c4 s2 :: numS s2 c4 c4 (a.drop (i + 1)) →
          ((pSett N c4 s2).bind fun x149 => (ix a (i : Int)).bind fun _x153 => (setx a (i : Int) x149).bind fun l157 => pNums_L2 N p0 self m l157 s2 c4 (IntKind.i64.wrap ((i : Int) + 1))) = some (a.take i ++ numS s p p (a.drop i)) := by
        intro s2 c4 he
        rw [pSett_eq, Option.bind_some, ixe hia, Option.bind_some, setxe _ hia, Option.bind_some, wne i (by omega), ih _ _ _ (by simpa using ha), he, there a i _ hia, drop_set_ge]
      have hd := drop_e hia
      generalize hc : a.getD i 0 = c at hd ⊢
      by_cases h12 : c = 1 ∨ c = 2
      · have h1 : (if c = 1 then some true else if c = 2 then some true else some false) = (some true : Option Bool) := by
          rcases h12 with e | e <;> rw [e] <;> rfl
        rw [h1]
        refine fin c c ?_
        rw [hd, numS_step (by omega), betwH_same _ (by omega) (by omega), if_pos h12]
        congr 1
        unfold settS
        rcases h12 with e | e <;> subst e <;> rfl
      have h1 : (if c = 1 then some true else if c = 2 then some true else some false) = (some false : Option Bool) := by
        rw [if_neg (by omega), if_neg (by omega)]
      rw [h1]
      by_cases h58 : c = 5 ∨ c = 8
      · have h2 : (if c = 5 then some true else if c = 8 then some true else some false) = (some true : Option Bool) := by
          rcases h58 with e | e <;> rw [e] <;> rfl
        rw [h2, wne i (by omega), pClassAt_eq]
        simp only [Option.bind_some]
        rw [pSep_eq N p c _ h58]
        have hb : betw p c (if i + 1 < a.length then a.getD (i + 1) 0 else 0) = betwH p c (a.drop (i + 1)) := by
          by_cases hi1 : i + 1 < a.length
          · rw [if_pos hi1, drop_e hi1]; rfl
          · rw [if_neg hi1, List.drop_eq_nil_of_le (by omega)]
            show betw p c 0 = c
            unfold betw
            rw [if_neg (by omega)]
        rw [hb]
        refine fin s (betwH p c (a.drop (i + 1))) ?_
        rw [hd, numS_step (by omega)]
        have h3 := betwH_in p c (a.drop (i + 1))
        rw [if_neg (by omega)]
      have h2 : (if c = 5 then some true else if c = 8 then some true else some false) = (some false : Option Bool) := by
        rw [if_neg (by omega), if_neg (by omega)]
      rw [h2]
      by_cases h6 : c = 6
      · simp only [Option.bind_some]
        rw [if_pos h6]
        obtain ⟨e, g1, g2, g3, g4, g5⟩ := pEndT_run (N := N) a (by omega) N i (by omega) (by omega)
        have hie : i < e := by
          rcases Nat.lt_or_ge i e with hh | hh
          · exact hh
          · have : e = i := by omega
            rw [this] at g5
            exact absurd (hc.trans h6) (g5 hia)
        unfold pEndT
        rw [g1, Option.bind_some, Option.bind_some, pClassAt_eq]
        have hrun := run_list a 6 (e - i) i (by omega) (fun j h1 h2 => g4 j h1 (by omega))
        rw [show i + (e - i) = e by omega] at hrun
        have hr : ∀ x r, a.drop e = x :: r → x ≠ 6 := by
          intro x r hx
          by_cases he : e < a.length
          · rw [drop_e he] at hx
            injection hx with hx _
            rw [← hx]; exact g5 he
          · rw [List.drop_eq_nil_of_le (by omega)] at hx; cases hx
        have hne : nextEN (a.drop e) = decide ((if e < a.length then a.getD e 0 else 0) = 4) := by
          by_cases he : e < a.length
          · rw [if_pos he, drop_e he, nextEN, if_neg (g5 he)]
          · rw [if_neg he, List.drop_eq_nil_of_le (by omega)]; rfl
        have hx : ∃ yes : Bool, (yes = true ↔ (p = 4 ∨ nextEN (a.drop e) = true)) ∧ (if p = 4 then some (4 : Int) else (some (if e < a.length then a.getD e 0 else 0)).bind fun x107 => if x107 = 4 then some 4 else some c) = some (if yes = true then 4 else 6) := by
          rw [hne, h6]
          generalize (if e < a.length then a.getD e 0 else 0) = y
          by_cases hp : p = 4
          · exact ⟨true, by simp [hp], by rw [if_pos hp]; rfl⟩
          · rw [if_neg hp]
            by_cases hy : y = 4
            · exact ⟨true, by simp [hy], by rw [Option.bind_some, if_pos hy]; rfl⟩
            · exact ⟨false, by simp [hp, hy], by rw [Option.bind_some, if_neg hy]; rfl⟩
        obtain ⟨yes, hy1, hy2⟩ := hx
        rw [hy2, Option.bind_some, cutx_e a i e g2 g3, Option.bind_some, pSett_eq, Option.bind_some, pFill_eq _ _ (by rw [cut_len a i e g2 g3]; omega) (by rw [cut_len a i e g2 g3]; omega), Option.bind_some, cut_len a i e g2 g3, putx_e, Option.bind_some, List.append_assoc]
        show ((self (fillS a i e (settS (if yes = true then 4 else 6) s)) s 6 (e : Int)).bind fun r => some (Ctl.ret r)).bind _ = _
        rw [hself e _ s 6 (by omega) (by omega) (by rw [fillS_len a i e _ g2 g3]; exact ha), fillS_take a i e _ g2 g3, fillS_drop a i e _ g2 g3, hrun]
        obtain ⟨n, hn⟩ : ∃ n, e - i = n + 1 := ⟨e - i - 1, by omega⟩
        rw [hn, numS_run s p p yes (a.drop e) hr hy1 n, List.append_assoc]
        rfl
      · simp only [Option.bind_some]
        rw [if_neg h6]
        refine fin s c ?_
        rw [hd, numS_step h6, betwH_same _ (by omega) (by omega), if_neg h12]
    · rw [if_neg (by omega), List.drop_eq_nil_of_le (by omega), List.take_of_length_le (by omega), numS_nil, List.append_nil]

theorem pNums_outer (p0 : List Int) (hl : p0.length ≤ 400000000) (hN : p0.length < N) : ∀ (k i : Nat) (a : List Int) (s p : Int), p0.length - i < k → i ≤ p0.length → a.length = p0.length →
      pNums_S1 N p0 k a s p (i : Int) = some (a.take i ++ numS s p p (a.drop i))
  | 0, _, _, _, _, h, _, _ => absurd h (Nat.not_lt_zero _)
  | k + 1, i, a, s, p, hk, hi, ha => by
    unfold pNums_S1
    exact pNums_inner p0 hl hN (pNums_S1 N p0 k) k (pNums_outer p0 hl hN k) N i a s p (by omega) hk hi ha
theorem pNums_eq (l : List Int) (s : Int) (hl : l.length ≤ 400000000) (hN : l.length < N) : pNums N l s = some (w7S s (w6S (w5S 0 (w4T l)))) := by
  unfold pNums
  rw [show pNums_S1 N l N l s 0 0 = some (l.take 0 ++ numS s 0 0 (l.drop 0)) from pNums_outer l hl hN N 0 l s 0 (by omega) (Nat.zero_le _) rfl]
  unfold numS
  rw [w4S_T]
  rfl

theorem pWeak_to (l : List Int) (s : Int) (hl : l.length ≤ 400000000) (hN : l.length < N) : pWeak N l s = some (weakS l s) := by
  have hn := noBN_len l
  unfold pWeak
  rw [pDense_eq l hl hN, Option.bind_some, pEdge_eq, Option.bind_some, pMarks_eq _ _ (by omega) (by omega), Option.bind_some, pArab_eq _ _ (by rw [w1S_len]; omega) (by rw [w1S_len]; omega), Option.bind_some,
    pNums_eq _ _ (by rw [w3S_len, w2S_len, w1S_len]; omega) (by rw [w3S_len, w2S_len, w1S_len]; omega), Option.bind_some,
    pSpread_eq l _ hl hN (by rw [w7S_len, w6S_len, w5S_len, w4T_len, w3S_len, w2S_len, w1S_len])]
  rfl
end
end Go.Proofs.Ytdpcaidhpccaiaa
