/-
  Neutral and Levels of the document, by lists.
-/
import Derived.Test.YtdpcaidhpccaiaaS3
namespace Go.Proofs.Ytdpcaidhpccaiaa
open Go Go.RowKit
set_option linter.unusedVariables false
set_option linter.unusedSectionVars false
set_option linter.unusedSimpArgs false

def isNeu (c : Int) : Bool := decide (11 ≤ c ∧ c ≤ 14 ∨ 20 ≤ c ∧ c ≤ 23)
/-- the direction of a class; 0: none -/
def dirC (c : Int) : Int := if c = 1 then 1 else if c = 2 ∨ c = 4 ∨ c = 7 then 2 else 0
/-- what is behind -/
def behindN (eos : Int) : List Int → Int
  | [] => sosS eos
  | c :: r => if isNeu c = true then behindN eos r else dirC c
def dirN (side a b : Int) : Int := if a = b ∧ a ≠ 0 then a else side
def nS (side eos : Int) : Int → List Int → List Int
  | _, [] => []
  | a, c :: r => if isNeu c = true then dirN side a (behindN eos r) :: nS side eos a r else c :: nS side eos (dirC c) r
def sideL (level : Int) : Int := if level % 2 = 1 then 2 else 1
def neutralS (l : List Int) (level sos eos : Int) : List Int := mergeB l (nS (sideL level) eos (sosS sos) (noBN l))

theorem nS_len (side eos : Int) : ∀ (l : List Int) (a : Int), (nS side eos a l).length = l.length
  | [], _ => rfl
  | c :: r, a => by
    rw [nS]
    split <;> rw [List.length_cons, nS_len side eos r, List.length_cons]

theorem rNeu_eq (N : Nat) (c : Int) : rNeu N c = some (isNeu c) := by
  unfold rNeu isNeu
  by_cases h1 : c ≥ 11
  · rw [if_pos h1]
    by_cases h2 : c ≤ 14
    · rw [if_pos h2, decide_eq_true (show 11 ≤ c ∧ c ≤ 14 ∨ 20 ≤ c ∧ c ≤ 23 by omega)]; rfl
    · rw [if_neg h2]
      simp only [Option.bind_some]
      by_cases h3 : c ≥ 20
      · rw [if_pos h3]; congr 1; simp only [decide_eq_decide]; omega
      · rw [if_neg h3, decide_eq_false (by omega)]
  · rw [if_neg h1]
    simp only [Option.bind_some]
    rw [if_neg (by omega), decide_eq_false (by omega)]

theorem rSide_eq (N : Nat) (c : Int) : rSide N c = some (dirC c) := by
  unfold rSide dirC
  by_cases h1 : c = 1
  · rw [if_pos h1, if_pos h1]
  rw [if_neg h1, if_neg h1]
  by_cases h2 : c = 2
  · rw [if_pos h2, if_pos (.inl h2)]
  rw [if_neg h2]
  by_cases h3 : c = 4
  · rw [if_pos h3, if_pos (.inr (.inl h3))]
  rw [if_neg h3]
  by_cases h4 : c = 7
  · rw [if_pos h4, if_pos (.inr (.inr h4))]
  rw [if_neg h4, if_neg (by omega)]

theorem rEnds_eq (N : Nat) (c : Int) : rEnds N c = some (sosS c) := by
  unfold rEnds sosS
  split <;> rfl

section
variable {N : Nat}

theorem rN_run (p0 a : List Int) (hl : p0.length ≤ 400000000) (ha : a.length = p0.length) (eos : Int) : ∀ (k i : Nat), p0.length - i < k → i ≤ p0.length →
    ∃ e : Nat, rNeutral_L3 N p0 a k (i : Int) = some (e : Int) ∧ i ≤ e ∧ e ≤ p0.length ∧ (∀ j, i ≤ j → j < e → isNeu (a.getD j 0) = true) ∧ (e < p0.length → isNeu (a.getD e 0) = false) ∧ behindN eos (a.drop i) = if e < p0.length then dirC (a.getD e 0) else sosS eos
  | 0, _, h, _ => absurd h (Nat.not_lt_zero _)
  | k + 1, i, hk, hi => by
    unfold rNeutral_L3
    by_cases h : i < p0.length
    · have hia : i < a.length := by omega
      rw [if_pos (by omega), ixe hia, Option.bind_some, drop_e hia, behindN, rNeu_eq, Option.bind_some]
      cases h6 : isNeu (a.getD i 0) with
      | true =>
        simp only [if_true]
        rw [wne i (by omega)]
        obtain ⟨e, g1, g2, g3, g4, g5, g6⟩ := rN_run p0 a hl ha eos k (i + 1) (by omega) (by omega)
        refine ⟨e, g1, by omega, g3, fun j hj hj2 => ?_, g5, g6⟩
        by_cases hji : j = i
        · rw [hji]; exact h6
        · exact g4 j (by omega) hj2
      | false =>
        refine ⟨i, rfl, Nat.le_refl _, by omega, fun j hj hj2 => by omega, fun _ => h6, ?_⟩
        rw [if_neg (by decide), if_pos h]
    · rw [if_neg (by omega), List.drop_eq_nil_of_le (by omega), behindN]
      exact ⟨i, rfl, Nat.le_refl _, hi, fun j hj hj2 => by omega, fun h' => absurd h' h, by rw [if_neg h]⟩

theorem rN_fill (e : Nat) (he : e ≤ 400000000) (v : Int) : ∀ (k i : Nat) (a : List Int), e - i < k → i ≤ e → e ≤ a.length →
    rNeutral_L4 N (e : Int) v k a (i : Int) = some (a.take i ++ (List.replicate (e - i) v ++ a.drop e), (e : Int))
  | 0, _, _, h, _, _ => absurd h (Nat.not_lt_zero _)
  | k + 1, i, a, hk, hi, hea => by
    unfold rNeutral_L4
    by_cases h : i < e
    · have hia : i < a.length := by omega
      rw [if_pos (by omega), ixe hia, Option.bind_some, setxe _ hia, Option.bind_some, wne i (by omega), rN_fill e he v k (i + 1) _ (by omega) (by omega) (by simp; omega), take_succ_set _ _ _ hia, List.drop_set_of_lt (by omega),
        show e - i = (e - (i + 1)) + 1 by omega, List.replicate_succ, List.append_assoc]
      rfl
    · rw [if_neg (by omega)]
      obtain rfl : i = e := by omega
      rw [Nat.sub_self, List.replicate_zero, List.nil_append, List.take_append_drop]

/-- neutral ones that stand together -/
theorem nS_run (side eos a : Int) (a0 : List Int) : ∀ (n i : Nat), i + n ≤ a0.length → (∀ j, i ≤ j → j < i + n → isNeu (a0.getD j 0) = true) →
    behindN eos (a0.drop i) = behindN eos (a0.drop (i + n)) ∧ nS side eos a (a0.drop i) = List.replicate n (dirN side a (behindN eos (a0.drop (i + n)))) ++ nS side eos a (a0.drop (i + n))
  | 0, i, _, _ => ⟨rfl, rfl⟩
  | n + 1, i, h, hv => by
    have h0 := hv i (Nat.le_refl _) (by omega)
    obtain ⟨h1, h2⟩ := nS_run side eos a a0 n (i + 1) (by omega) (fun j h1 h2 => hv j (by omega) (by omega))
    rw [show i + 1 + n = i + (n + 1) by omega] at h1 h2
    rw [drop_e (show i < a0.length by omega), behindN, nS, if_pos h0, if_pos h0, h1, h2, List.replicate_succ]
    exact ⟨rfl, rfl⟩

/-- the direction ahead -/
def aheadN (sos : Int) (a : List Int) (i : Nat) : Int := if i = 0 then sosS sos else dirC (a.getD (i - 1) 0)

theorem rN_loop (p0 : List Int) (side sos eos : Int) (hl : p0.length ≤ 400000000) (hN : p0.length < N) : ∀ (k i : Nat) (a : List Int), p0.length - i < k → i ≤ p0.length → a.length = p0.length → (0 < i → i < p0.length → isNeu (a.getD i 0) = true → isNeu (a.getD (i - 1) 0) = false) →
    rNeutral_L2 N sos eos p0 side k a (i : Int) = some (a.take i ++ nS side eos (aheadN sos a i) (a.drop i))
  | 0, _, _, h, _, _, _ => absurd h (Nat.not_lt_zero _)
  | k + 1, i, a, hk, hi, ha, hst => by
    unfold rNeutral_L2
    by_cases h : i < p0.length
    · have hia : i < a.length := by omega
      have ih := fun j a (h1 : p0.length - j < k) (h2 : j ≤ p0.length) => rN_loop p0 side sos eos hl hN k j a h1 h2
      obtain ⟨e, g1, g2, g3, g4, g5, g6⟩ := rN_run (N := N) p0 a hl ha eos N i (by omega) hi
      rw [if_pos (by omega), g1, Option.bind_some]
      by_cases hie : e = i
      · subst hie
        have hno := g5 h
        rw [if_pos rfl, wne e (by omega), drop_e hia, nS, if_neg (by rw [hno]; decide), here a e hia]
        rw [ih (e + 1) a (by omega) (by omega) ha (fun _ _ _ => by rw [Nat.add_sub_cancel]; exact hno)]
        have : aheadN sos a (e + 1) = dirC (a.getD e 0) := by unfold aheadN; rw [if_neg (by omega), Nat.add_sub_cancel]
        rw [this]
      · rw [if_neg (by omega), rEnds_eq, Option.bind_some, rEnds_eq, Option.bind_some]
        have hb1 : (if (i : Int) > 0 then ((ix a (IntKind.i64.wrap ((i : Int) - 1))).bind fun x145 => ((rSide N x145).bind fun x149 => some (x149))) else some (sosS sos) : Option Int) = some (aheadN sos a i) := by
          unfold aheadN
          by_cases h0 : i = 0
          · subst h0; rfl
          · rw [if_pos (by omega), if_neg h0, wme i (by omega) (by omega), ixe (by omega), Option.bind_some, rSide_eq]; rfl
        have hb2 : (if (e : Int) < ((p0.length : Nat) : Int) then ((ix a (e : Int)).bind fun x163 => ((rSide N x163).bind fun x167 => some (x167))) else some (sosS eos) : Option Int) = some (behindN eos (a.drop i)) := by
          rw [g6]
          by_cases q : e < p0.length
          · rw [if_pos (by omega), if_pos q, ixe (by omega), Option.bind_some, rSide_eq]; rfl
          · rw [if_neg (by omega), if_neg q]
        rw [hb1, Option.bind_some, hb2, Option.bind_some]
        have hd : (if aheadN sos a i = behindN eos (a.drop i) then (if aheadN sos a i ≠ 0 then some (aheadN sos a i) else some side) else some side : Option Int) = some (dirN side (aheadN sos a i) (behindN eos (a.drop i))) := by
          unfold dirN
          by_cases q1 : aheadN sos a i = behindN eos (a.drop i)
          · rw [if_pos q1]
            by_cases q2 : aheadN sos a i ≠ 0
            · rw [if_pos q2, if_pos ⟨q1, q2⟩]
            · rw [if_neg q2, if_neg (fun z => q2 z.2)]
          · rw [if_neg q1, if_neg (fun z => q1 z.1)]
        rw [hd, Option.bind_some]
        obtain ⟨r1, r2⟩ := nS_run side eos (aheadN sos a i) a (e - i) i (by omega) (fun j h1 h2 => g4 j h1 (by omega))
        rw [show i + (e - i) = e by omega] at r1 r2
        rw [r2, ← r1]
        generalize dirN side (aheadN sos a i) (behindN eos (a.drop i)) = v
        rw [rN_fill e (by omega) v N i a (by omega) (by omega) (by omega), Option.bind_some]
        simp only
        have hlen : (a.take i ++ (List.replicate (e - i) v ++ a.drop e)).length = p0.length := by simp; omega
        have hti : (a.take i).length = i := by simp; omega
        have h1 : (a.take i ++ (List.replicate (e - i) v ++ a.drop e)).take e = a.take i ++ List.replicate (e - i) v := by
          rw [← List.append_assoc]
          exact List.take_left' (by simp; omega)
        have h2 : (a.take i ++ (List.replicate (e - i) v ++ a.drop e)).drop e = a.drop e := by
          rw [← List.append_assoc]
          exact List.drop_left' (by simp; omega)
        have hge : ∀ j, (a.take i ++ (List.replicate (e - i) v ++ a.drop e)).getD (e + j) 0 = a.getD (e + j) 0 := by
          intro j
          rw [← getD_drop, h2, getD_drop]
        rw [ih e _ (by omega) g3 hlen (fun _ q q2 => by
          have := hge 0
          rw [Nat.add_zero] at this
          rw [this, g5 q] at q2
          cases q2), h1, h2, List.append_assoc]
        -- behind the run what is ahead counts no more
        congr 3
        by_cases q : e < p0.length
        · rw [drop_e (show e < a.length by omega), nS, nS, if_neg (by rw [g5 q]; decide), if_neg (by rw [g5 q]; decide)]
        · rw [List.drop_eq_nil_of_le (by omega)]; rfl
    · rw [if_neg (by omega), List.drop_eq_nil_of_le (by omega), List.take_of_length_le (by omega), nS, List.append_nil]

theorem rNF_loop (p0 : List Int) (hl : p0.length ≤ 400000000) : ∀ (k i : Nat) (a : List Int), p0.length - i < k → i ≤ p0.length → a.length ≤ i →
    rNeutral_L1 N p0 k a (i : Int) = some (a ++ noBN (p0.drop i))
  | 0, _, _, h, _, _ => absurd h (Nat.not_lt_zero _)
  | k + 1, i, a, hk, hi, ha => by
    unfold rNeutral_L1
    by_cases h : i < p0.length
    · rw [if_pos (by omega), ixe h, Option.bind_some, wne i (by omega), drop_e h]
      have ih := fun a => rNF_loop p0 hl k (i + 1) a (by omega) (by omega)
      by_cases h10 : p0.getD i 0 = 10
      · rw [if_neg (fun e => e h10), ih a (by omega)]
        unfold noBN
        rw [List.filter_cons, if_neg (by rw [h10]; decide)]
      · rw [if_pos h10, Option.bind_some, apx_to a _ (by simp; omega), Option.bind_some, ih _ (by simp; omega)]
        unfold noBN
        rw [List.filter_cons, if_pos (by simpa using h10), List.append_assoc]
        rfl
    · rw [if_neg (by omega), List.drop_eq_nil_of_le (by omega)]
      simp [noBN]

theorem rNM_loop (p0 row : List Int) (hl : p0.length ≤ 400000000) : ∀ (k i j : Nat) (a : List Int), p0.length - i < k → i ≤ p0.length → a.length = i → j ≤ i → j + (noBN (p0.drop i)).length = row.length →
    rNeutral_L5 N p0 row k a (j : Int) (i : Int) = some (a ++ mergeB (p0.drop i) (row.drop j))
  | 0, _, _, _, h, _, _, _, _ => absurd h (Nat.not_lt_zero _)
  | k + 1, i, j, a, hk, hi, ha, hj, hr => by
    unfold rNeutral_L5
    by_cases h : i < p0.length
    · rw [if_pos (by omega), ixe h, Option.bind_some, wne i (by omega), drop_e h]
      have ih := fun j a => rNM_loop p0 row hl k (i + 1) j a (by omega) (by omega)
      rw [drop_e h] at hr
      unfold noBN at hr
      rw [List.filter_cons] at hr
      by_cases h10 : p0.getD i 0 = 10
      · rw [if_neg (by rw [h10]; decide)] at hr
        rw [if_pos h10, h10, mergeB_bn, apx_to a _ (by simp; omega), Option.bind_some, ih j _ (by simp [ha]) (by omega) hr, List.append_assoc]
        rfl
      · rw [if_pos (by simpa using h10)] at hr
        rw [List.length_cons] at hr
        have hjr : j < row.length := by omega
        rw [if_neg h10, drop_e hjr, mergeB_no h10, ixe hjr, Option.bind_some, apx_to a _ (by simp; omega), Option.bind_some, wne j (by omega), ih (j + 1) _ (by simp [ha]) (by omega) (by unfold noBN; omega), List.append_assoc]
        rfl
    · rw [if_neg (by omega), List.drop_eq_nil_of_le (by omega)]
      simp [mergeB]

theorem rNeutral_eq (l : List Int) (level sos eos : Int) (hv : 0 ≤ level) (hl : l.length ≤ 400000000) (hN : l.length < N) : rNeutral N l level sos eos = some (neutralS l level sos eos) := by
  unfold rNeutral
  have hn := noBN_len l
  rw [show (0 : Int) = ((0 : Nat) : Int) from rfl, rNF_loop l hl N 0 [] (by omega) (Nat.zero_le _) (Nat.le_refl _), Option.bind_some, List.nil_append, List.drop_zero]
  have hs : (if level.tmod 2 = 1 then some (2 : Int) else some 1) = some (sideL level) := by
    unfold sideL
    rw [Int.tmod_eq_emod_of_nonneg hv]
    split <;> rfl
  rw [hs, Option.bind_some, rN_loop (noBN l) (sideL level) sos eos (by omega) (by omega) N 0 (noBN l) (by omega) (Nat.zero_le _) rfl (fun h => by omega)]
  have h1 : (noBN l).take 0 ++ nS (sideL level) eos (aheadN sos (noBN l) 0) ((noBN l).drop 0) = nS (sideL level) eos (sosS sos) (noBN l) := by rw [List.take_zero, List.drop_zero]; rfl
  rw [h1, Option.bind_some]
  have h := rNM_loop (N := N) l (nS (sideL level) eos (sosS sos) (noBN l)) hl N 0 0 [] (by omega) (Nat.zero_le _) rfl (Nat.le_refl _) (by rw [List.drop_zero, nS_len]; omega)
  rw [List.drop_zero, List.drop_zero, List.nil_append] at h
  rw [h]
  rfl

/-! ### Levels -/
def lvlC (level c : Int) : Int := if level % 2 = 0 then (if c = 2 then IntKind.u8.wrap (level + 1) else if c = 4 ∨ c = 7 then IntKind.u8.wrap (level + 2) else level) else if c = 1 ∨ c = 4 ∨ c = 7 then IntKind.u8.wrap (level + 1) else level

theorem rLvl_loop (p0 : List Int) (level : Int) (hv : 0 ≤ level) (hl : p0.length ≤ 400000000) : ∀ (k i : Nat) (a : List Int), p0.length - i < k → i ≤ p0.length → a.length = i →
    rLvl_L1 N p0 level k a (i : Int) = some (a ++ (p0.drop i).map (lvlC level))
  | 0, _, _, h, _, _ => absurd h (Nat.not_lt_zero _)
  | k + 1, i, a, hk, hi, ha => by
    unfold rLvl_L1
    by_cases h : i < p0.length
    · rw [if_pos (by omega), ixe h, drop_e h, List.map_cons, wne i (by omega)]
      have ih := fun v => rLvl_loop p0 level hv hl k (i + 1) (a ++ [v]) (by omega) (by omega) (by simp [ha])
      have fin : ∀ v, lvlC level (p0.getD i 0) = v → ((apx a [v]).bind fun l => rLvl_L1 N p0 level k l ((i + 1 : Nat) : Int)) = some (a ++ (lvlC level (p0.getD i 0) :: (p0.drop (i + 1)).map (lvlC level))) := by
        intro v hv
        rw [apx_to a [v] (by simp; omega), Option.bind_some, ih v, hv, List.append_assoc]
        rfl
      generalize p0.getD i 0 = c at fin ⊢
      rw [Int.tmod_eq_emod_of_nonneg hv]
      have hm : level % 2 = 0 ∨ level % 2 = 1 := by omega
      unfold lvlC at fin ⊢
      rcases hm with hm | hm
      · simp only [hm] at fin ⊢
        by_cases h2 : c = 2
        · subst h2
          exact fin _ rfl
        · by_cases h4 : c = 4
          · subst h4
            exact fin _ rfl
          · by_cases h7 : c = 7
            · subst h7
              exact fin _ rfl
            · simp [h2, h4, h7] at fin ⊢
              exact fin
      · simp only [hm] at fin ⊢
        by_cases h1 : c = 1
        · subst h1
          exact fin _ rfl
        · by_cases h4 : c = 4
          · subst h4
            exact fin _ rfl
          · by_cases h7 : c = 7
            · subst h7
              exact fin _ rfl
            · simp [h1, h4, h7] at fin ⊢
              exact fin
    · rw [if_neg (by omega), List.drop_eq_nil_of_le (by omega)]
      simp

theorem rLvl_eq (l : List Int) (level : Int) (hv : 0 ≤ level) (hl : l.length ≤ 400000000) (hN : l.length < N) : rLvl N l level = some (l.map (lvlC level)) := by
  unfold rLvl
  rw [show (0 : Int) = ((0 : Nat) : Int) from rfl, rLvl_loop l level hv hl N 0 [] (by omega) (Nat.zero_le _) rfl]
  rfl
end
end Go.Proofs.Ytdpcaidhpccaiaa
