/-
  EmbedIsolates is true, by lists.
-/
import Derived.Test.YtapfdafmhiilkaaE6
import Derived.Test.YtapfdafmhiilkaaFIsolates
namespace Go.Proofs.Ytapfdafmhiilkaa
open Go Go.RowKit
set_option linter.unusedVariables false
set_option linter.unusedSectionVars false
set_option linter.unusedSimpArgs false

theorem plain_spec (N : Nat) (m : List Int) (hm : m.length ≤ 400000000) : ∀ (k i d : Nat), m.length - i < k → i ≤ m.length → d ≤ i →
    ∃ r, kPlain_L1 N m k (d : Int) (i : Int) = some r ∧ (∀ z, r = Ctl.go z → z = 0 → balIn d (m.drop i) ∧ (m.drop i).all okC = true) ∧ (∀ z, r = Ctl.ret z → z = false)
  | 0, _, _, h, _, _ => absurd h (Nat.not_lt_zero _)
  | k + 1, i, d, hk, hi, hd => by
    unfold kPlain_L1
    by_cases hn : i < m.length
    · rw [if_pos (by omega), drop_e hn]
      simp only [ixe hn, Option.bind_some, rInit_eq, wne i (by omega), wne d (by omega)]
      generalize m.getD i 0 = c
      have ih := fun d' hd' => plain_spec N m hm k (i + 1) d' (by omega) (by omega) hd'
      by_cases h1 : c < 1
      · rw [if_pos h1]; exact ⟨_, rfl, fun z e => (by cases e), fun z e => by injection e with e; exact e.symm⟩
      rw [if_neg h1]
      by_cases h2 : c > 23
      · rw [if_pos h2]; exact ⟨_, rfl, fun z e => (by cases e), fun z e => by injection e with e; exact e.symm⟩
      rw [if_neg h2]
      by_cases h3 : c = 11
      · rw [if_pos h3]; exact ⟨_, rfl, fun z e => (by cases e), fun z e => by injection e with e; exact e.symm⟩
      rw [if_neg h3]
      simp only [Option.bind_some]
      have hok : okC c = true := decide_eq_true (by omega)
      simp only [balIn_cons, List.all_cons, hok, Bool.true_and]
      cases hc : isInit c with
      | true =>
        obtain ⟨r, q1, q2, q3⟩ := ih (d + 1) (by omega)
        refine ⟨r, q1, fun z e e0 => ?_, q3⟩
        obtain ⟨p1, p2⟩ := q2 z e e0
        exact ⟨⟨h3, by simpa using p1⟩, p2⟩
      | false =>
        simp only
        by_cases h23 : c = 23
        · rw [if_pos h23]
          by_cases hd0 : d = 0
          · subst hd0
            rw [if_pos (by rw [w64e (by omega) (by omega)]; omega)]
            exact ⟨_, rfl, fun z e => (by cases e), fun z e => by injection e with e; exact e.symm⟩
          · obtain ⟨d', rfl⟩ : ∃ d', d = d' + 1 := ⟨d - 1, by omega⟩
            rw [wme (d' + 1) (by omega) (by omega), Nat.add_sub_cancel, if_neg (by omega)]
            obtain ⟨r, q1, q2, q3⟩ := ih d' (by omega)
            refine ⟨r, q1, fun z e e0 => ?_, q3⟩
            obtain ⟨p1, p2⟩ := q2 z e e0
            exact ⟨⟨h3, by simpa [h23] using p1⟩, p2⟩
        · rw [if_neg h23]
          obtain ⟨r, q1, q2, q3⟩ := ih d (by omega)
          refine ⟨r, q1, fun z e e0 => ?_, q3⟩
          obtain ⟨p1, p2⟩ := q2 z e e0
          exact ⟨⟨h3, by simpa [h23] using p1⟩, p2⟩
    · rw [if_neg (by omega), List.drop_eq_nil_of_le (by omega)]
      refine ⟨_, rfl, fun z e e0 => ?_, fun z e => by cases e⟩
      injection e with e
      exact ⟨by show d = 0; omega, rfl⟩

theorem kPlain_spec (N : Nat) (m : List Int) (hm : m.length ≤ 400000000) (hN : m.length < N) : ∃ b, kPlain N m = some b ∧ (b = true → balIn 0 m ∧ m.all okC = true) := by
  obtain ⟨r, h1, h2, h3⟩ := plain_spec N m hm N 0 0 (by omega) (Nat.zero_le _) (Nat.le_refl _)
  unfold kPlain
  rw [show ((0 : Nat) : Int) = 0 from rfl] at h1
  rw [h1]
  cases r with
  | go z => exact ⟨_, rfl, fun h => by have := h2 z rfl (of_decide_eq_true h); rwa [List.drop_zero] at this⟩
  | ret z => exact ⟨_, rfl, fun h => by rw [h3 z rfl] at h; cases h⟩

theorem outM_cons (base : Int) (s : Ms) (p c : Int) (r x : List Int) : outM base s p (c :: r) x = match (stepM base s c (rightw true 0 (r ++ x))).2 with
    | some (v, k) => (v, k) :: outM base (stepM base s c (rightw true 0 (r ++ x))).1 v r x
    | none => (p, 10) :: outM base (stepM base s c (rightw true 0 (r ++ x))).1 p r x := rfl
theorem endP_cons (base : Int) (s : Ms) (p c : Int) (r x : List Int) : endP base s p (c :: r) x = endP base (stepM base s c (rightw true 0 (r ++ x))).1 (match (stepM base s c (rightw true 0 (r ++ x))).2 with | some (v, _) => v | none => p) r x := rfl

theorem step_lr (base : Int) (s : Ms) (c : Int) (hc : c = 20 ∨ c = 21) (f g : Bool) : stepM base s c f = stepM base s c g := by
  have hi : isInit c = true := by rw [isInit_iff]; omega
  have h22 : (c == 22) = false := by rcases hc with rfl | rfl <;> rfl
  rw [step_I base s c f hi, step_I base s c g hi, h22, Bool.false_and, Bool.false_and]

/-- what stands ahead of an isolate doesn't see into it -/
theorem ahead_same (base : Int) (c : Int) (hc : c = 20 ∨ c = 21) (m x : List Int) (hm : balIn 0 m) : ∀ (a : List Int) (s : Ms) (p : Int),
    outM base s p (a ++ [c]) (m ++ 23 :: x) = outM base s p (a ++ [c]) (23 :: x) ∧ endM base s (a ++ [c]) (m ++ 23 :: x) = endM base s (a ++ [c]) (23 :: x) ∧ endP base s p (a ++ [c]) (m ++ 23 :: x) = endP base s p (a ++ [c]) (23 :: x)
  | [], s, p => by
    rw [List.nil_append, outM_cons, outM_cons, endM_cons, endM_cons, endP_cons, endP_cons, step_lr base s c hc (rightw true 0 ([] ++ (m ++ 23 :: x))) (rightw true 0 ([] ++ 23 :: x))]
    exact ⟨rfl, rfl, rfl⟩
  | y :: a, s, p => by
    have hi : isInit c = true := by rw [isInit_iff]; omega
    have hr := right_iso true c hi m x hm a 0
    have e1 : a ++ [c] ++ (m ++ 23 :: x) = a ++ c :: (m ++ 23 :: x) := by simp
    have e2 : a ++ [c] ++ (23 :: x) = a ++ c :: 23 :: x := by simp
    rw [List.cons_append, outM_cons, outM_cons, endM_cons, endM_cons, endP_cons, endP_cons, e1, e2, hr]
    have ih := ahead_same base c hc m x hm a
    refine ⟨?_, (ih _ 0).2.1, (ih _ _).2.2⟩
    split
    · rw [(ih _ _).1]
    · rw [(ih _ _).1]

theorem step_P_out (base : Int) (s : Ms) (f : Bool) : (stepM base s 23 f).2 = some (topL (stepM base s 23 f).1.stk base, clsO (stepM base s 23 f).1.stk 23) := rfl

/-- behind the isolate -/
def tailO (base : Int) (s : Ms) (x : List Int) : List (Int × Int) := (topL s.stk base, clsO s.stk 23) :: runM base s (topL s.stk base) x

theorem iso_parts (base : Int) (c : Int) (hc : c = 20 ∨ c = 21) (a m x : List Int) (hm : balIn 0 m) : ∃ M : List (Int × Int), M.length = m.length ∧
    runM base (ms0 base) base (a ++ c :: (m ++ 23 :: x)) = outM base (ms0 base) base (a ++ [c]) (23 :: x) ++ (M ++ tailO base (endM base (ms0 base) a (c :: 23 :: x)) x) := by
  have hsame := ahead_same base c hc m x hm a (ms0 base) base
  have e1 : a ++ c :: (m ++ 23 :: x) = (a ++ [c]) ++ (m ++ 23 :: x) := by simp
  rw [e1, run_app, hsame.1, hsame.2.1, hsame.2.2, run_app base (23 :: x) m]
  refine ⟨outM base (endM base (ms0 base) (a ++ [c]) (23 :: x)) (endP base (ms0 base) base (a ++ [c]) (23 :: x)) m (23 :: x), outM_len _ _ _ _ _, ?_⟩
  congr 2
  -- the PDI
  have h0 : endM base (ms0 base) (a ++ [c]) (23 :: x) = (stepM base (endM base (ms0 base) a (c :: 23 :: x)) c (rightw true 0 (m ++ [23] ++ x))).1 := by
    rw [endM_app, List.singleton_append, endM_cons, step_lr base _ c hc _ (rightw true 0 (m ++ [23] ++ x))]; rfl
  have hiso := iso_run base x c hc m hm (endM base (ms0 base) a (c :: 23 :: x))
  rw [endM_cons, endM_app, List.singleton_append, ← h0] at hiso
  generalize endM base (ms0 base) a (c :: 23 :: x) = s0 at hiso ⊢
  generalize endM base (endM base (ms0 base) (a ++ [c]) (23 :: x)) m (23 :: x) = t at hiso ⊢
  have hst : (stepM base t 23 (rightw true 0 x)).1 = s0 := hiso
  rw [runM_cons, step_P_out, hst]
  rfl

theorem isoA_loop (N : Nat) (p0 : List Int) (H X Y : List (Int × Int)) (hH : H.length = p0.length + 1) (hl : p0.length ≤ 900000) : ∀ (k i : Nat), p0.length + 1 - i < k → i ≤ p0.length + 1 →
    fIsolates_L1 N p0 ((H ++ X).map Prod.fst) ((H ++ X).map Prod.snd) ((H ++ Y).map Prod.fst) ((H ++ Y).map Prod.snd) k (i : Int) = some (Ctl.go ())
  | 0, _, h, _ => absurd h (Nat.not_lt_zero _)
  | k + 1, i, hk, hi => by
    unfold fIsolates_L1
    by_cases hn : i ≤ p0.length
    · rw [if_pos (by omega)]
      have g : ∀ Z : List (Int × Int), ix ((H ++ Z).map Prod.fst) (i : Int) = some (H[i]'(by omega)).1 ∧ ix ((H ++ Z).map Prod.snd) (i : Int) = some (H[i]'(by omega)).2 := fun Z => by
        have h3 : i < (H ++ Z).length := by rw [List.length_append]; omega
        have h4 : (H ++ Z)[i] = H[i]'(by omega) := List.getElem_append_left (by omega)
        constructor
        · rw [ixe (by rw [List.length_map]; exact h3)]; rw [List.getD_eq_getElem?_getD, List.getElem?_map, List.getElem?_eq_getElem h3, h4]; rfl
        · rw [ixe (by rw [List.length_map]; exact h3)]; rw [List.getD_eq_getElem?_getD, List.getElem?_map, List.getElem?_eq_getElem h3, h4]; rfl
      rw [(g X).1, (g X).2, (g Y).1, (g Y).2]
      simp only [Option.bind_some]
      rw [if_neg (fun e => e rfl), if_neg (fun e => e rfl), wne i (by omega)]
      exact isoA_loop N p0 H X Y hH hl k (i + 1) (by omega) (by omega)
    · rw [if_neg (by omega)]

theorem isoB_loop (N : Nat) (p3 L1 L2 : List Int) (X Y T : List (Int × Int)) (hT : T.length = p3.length + 1) (h1 : L1.length = (X ++ T).length) (h2 : L2.length = (Y ++ T).length) (hl : p3.length ≤ 900000) (hx : X.length ≤ 900000) (hy : Y.length ≤ 900000) : ∀ (k i : Nat), p3.length + 1 - i < k → i ≤ p3.length + 1 →
    fIsolates_L2 N p3 L1 L2 ((X ++ T).map Prod.fst) ((X ++ T).map Prod.snd) ((Y ++ T).map Prod.fst) ((Y ++ T).map Prod.snd) k (i : Int) = some (Ctl.go ())
  | 0, _, h, _ => absurd h (Nat.not_lt_zero _)
  | k + 1, i, hk, hi => by
    unfold fIsolates_L2
    by_cases hn : i ≤ p3.length
    · rw [if_pos (by omega)]
      have g : ∀ (Z : List (Int × Int)) (L : List Int), Z.length ≤ 900000 → L.length = (Z ++ T).length → IntKind.i64.wrap ((IntKind.i64.wrap (((L.length : Nat) : Int) - 1)) - (i : Int)) = ((Z.length + (p3.length - i) : Nat) : Int) ∧ ix ((Z ++ T).map Prod.fst) ((Z.length + (p3.length - i) : Nat) : Int) = some (T[p3.length - i]'(by omega)).1 ∧ ix ((Z ++ T).map Prod.snd) ((Z.length + (p3.length - i) : Nat) : Int) = some (T[p3.length - i]'(by omega)).2 := fun Z L hz hL => by
        have hlen : L.length = Z.length + (p3.length + 1) := by rw [hL, List.length_append, hT]
        have h3 : Z.length + (p3.length - i) < (Z ++ T).length := by rw [List.length_append]; omega
        have h4 : (Z ++ T)[Z.length + (p3.length - i)] = T[p3.length - i]'(by omega) := by
          rw [List.getElem_append_right (by omega)]; congr 1; omega
        refine ⟨?_, ?_, ?_⟩
        · rw [w64e (x := ((L.length : Nat) : Int) - 1) (by omega) (by omega), w64e (by omega) (by omega)]; omega
        · rw [ixe (by rw [List.length_map]; exact h3)]; rw [List.getD_eq_getElem?_getD, List.getElem?_map, List.getElem?_eq_getElem h3, h4]; rfl
        · rw [ixe (by rw [List.length_map]; exact h3)]; rw [List.getD_eq_getElem?_getD, List.getElem?_map, List.getElem?_eq_getElem h3, h4]; rfl
      obtain ⟨a1, a2, a3⟩ := g X L1 hx h1
      obtain ⟨b1, b2, b3⟩ := g Y L2 hy h2
      rw [a1, b1, a2, a3, b2, b3]
      simp only [Option.bind_some]
      rw [if_neg (fun e => e rfl), if_neg (fun e => e rfl), wne i (by omega)]
      exact isoB_loop N p3 L1 L2 X Y T hT h1 h2 hl hx hy k (i + 1) (by omega) (by omega)
    · rw [if_neg (by omega)]

theorem fIsolates_true (l m1 m2 x : List Int) (rt : Bool) (b : Int) (hb : 0 ≤ b ∧ b ≤ 255) : ∃ N, fIsolates N l m1 m2 x rt b = some true := by
  refine ⟨10000, ?_⟩
  unfold fIsolates
  by_cases c1 : 600 < l.length
  · rw [if_pos (by omega), kWorks_eq _ (by omega)]; rfl
  rw [if_neg (by omega)]
  by_cases c2 : 600 < m1.length
  · rw [if_pos (by omega), kWorks_eq _ (by omega)]; rfl
  rw [if_neg (by omega)]
  by_cases c3 : 600 < m2.length
  · rw [if_pos (by omega), kWorks_eq _ (by omega)]; rfl
  rw [if_neg (by omega)]
  by_cases c4 : 600 < x.length
  · rw [if_pos (by omega), kWorks_eq _ (by omega)]; rfl
  rw [if_neg (by omega)]
  obtain ⟨b1, hb1, hs1⟩ := kPlain_spec 10000 m1 (by omega) (by omega)
  obtain ⟨b2, hb2, hs2⟩ := kPlain_spec 10000 m2 (by omega) (by omega)
  rw [hb1, hb2, kWorks_eq _ (by omega)]
  simp only [Option.bind_some]
  cases b1 with
  | false => rfl
  | true =>
    cases b2 with
    | false => rfl
    | true =>
      obtain ⟨u1, v1⟩ := hs1 rfl
      obtain ⟨u2, v2⟩ := hs2 rfl
      simp only [Option.bind_some]
      cases rt
      case' false =>
        simp only [Option.bind_some]
        generalize hgc : (20 : Int) = c
        have hcc : c = 20 ∨ c = 21 := .inl hgc.symm
      case' true =>
        simp only [Option.bind_some]
        generalize hgc : (21 : Int) = c
        have hcc : c = 20 ∨ c = 21 := .inr hgc.symm
      all_goals
        clear hgc
        rw [apx_nil l (by omega), Option.bind_some, apx_to l [c] (by simp; omega), Option.bind_some, apx_nil _ (by simp; omega), Option.bind_some, apx_to _ m1 (by simp; omega), Option.bind_some, apx_to _ m2 (by simp; omega), Option.bind_some, apx_to _ [23] (by simp; omega), Option.bind_some, apx_to _ [23] (by simp; omega), Option.bind_some, apx_to _ x (by simp; omega), Option.bind_some, apx_to _ x (by simp; omega), Option.bind_some,
          pLevels_eq 10000 _ b hb (by simp; omega) (by simp; omega), pLevels_eq 10000 _ b hb (by simp; omega) (by simp; omega)]
        have e1 : ∀ m : List Int, l ++ [c] ++ m ++ [23] ++ x = l ++ c :: (m ++ 23 :: x) := fun m => by simp
        rw [e1, e1]
        have hi : isInit c = true := by rw [isInit_iff]; omega
        have hcok : okC c = true := decide_eq_true (by omega)
        have hall : ∀ m : List Int, m.all okC = true → (l ++ c :: (m ++ 23 :: x)).all okC = (l.all okC && x.all okC) := fun m hm => by
          simp only [List.all_append, List.all_cons, hm, hcok, Bool.true_and]
          rfl
        have hbase : ∀ m : List Int, balIn 0 m → baseS (l ++ c :: (m ++ 23 :: x)) b = baseS (l ++ c :: 23 :: x) b := fun m hm => by
          unfold baseS; rw [right_iso false c hi m x hm l 0]
        have hlen : ∀ m : List Int, (l ++ c :: (m ++ 23 :: x)).length = l.length + (m.length + x.length + 2) := fun m => by simp; omega
        simp only [Option.bind_some]
        by_cases he : (levelsS (l ++ c :: (m1 ++ 23 :: x)) b).2.2.2 = 0
        · obtain ⟨g1, g2, g3, g4⟩ := levels_ok he
          rw [hall m1 v1] at g2
          have g5 := levels_eq (l := l ++ c :: (m2 ++ 23 :: x)) (b := b) (by rw [hlen]; omega) (by rw [hall m2 v2]; exact g2) g3
          rw [hbase m2 u2] at g5
          rw [hbase m1 u1] at g4
          rw [g4, g5]
          have hn := baseS_in (l ++ c :: 23 :: x) b ⟨hb.1, g3⟩
          generalize baseS (l ++ c :: 23 :: x) b = n at hn
          simp only
          rw [if_neg (fun e => e rfl), if_neg (fun e => e rfl), if_neg (fun e => e rfl)]
          simp only [Option.bind_some]
          rw [apx_to l [c, 14] (by simp; omega), Option.bind_some, pLevels_eq 10000 _ n (by omega) (by simp; omega) (by simp; omega)]
          rw [Bool.and_eq_true] at g2
          have g6 := levels_eq (l := l ++ [c, 14]) (b := n) (by simp; omega) (by simp [List.all_append, g2.1, hcok]; decide) (by omega)
          rw [g6]
          simp only [Option.bind_some]
          have hpl : ((runM (baseS (l ++ [c, 14]) n) (ms0 (baseS (l ++ [c, 14]) n)) (baseS (l ++ [c, 14]) n) (l ++ [c, 14])).map Prod.fst).length = l.length + 2 := by rw [List.length_map, runM_len]; simp
          generalize (runM (baseS (l ++ [c, 14]) n) (ms0 (baseS (l ++ [c, 14]) n)) (baseS (l ++ [c, 14]) n) (l ++ [c, 14])).map Prod.fst = pr at hpl
          rw [w64e (x := ((l.length : Nat) : Int) + 2) (by omega) (by omega), if_neg (by omega), wne _ (by omega), ixe (show l.length + 1 < pr.length by omega), Option.bind_some, ixe (show l.length < pr.length by omega), Option.bind_some]
          by_cases hq : pr.getD (l.length + 1) 0 = pr.getD l.length 0
          · rw [if_pos hq]; rfl
          · rw [if_neg hq]
            simp only [Option.bind_some]
            obtain ⟨M1, k1, k2⟩ := iso_parts n c hcc l m1 x u1
            obtain ⟨M2, k3, k4⟩ := iso_parts n c hcc l m2 x u2
            rw [k2, k4]
            have hH : (outM n (ms0 n) n (l ++ [c]) (23 :: x)).length = l.length + 1 := by rw [outM_len]; simp
            have hT : (tailO n (endM n (ms0 n) l (c :: 23 :: x)) x).length = x.length + 1 := by unfold tailO; rw [List.length_cons, runM_len]
            generalize outM n (ms0 n) n (l ++ [c]) (23 :: x) = H at hH
            generalize tailO n (endM n (ms0 n) l (c :: 23 :: x)) x = T at hT
            have r1 := isoA_loop 10000 l H (M1 ++ T) (M2 ++ T) hH (by omega) 10000 0 (by omega) (by omega)
            rw [show ((0 : Nat) : Int) = 0 from rfl] at r1
            rw [r1]
            simp only [Option.bind_some]
            rw [← List.append_assoc, ← List.append_assoc]
            have r2 := isoB_loop 10000 x (l ++ c :: (m1 ++ 23 :: x)) (l ++ c :: (m2 ++ 23 :: x)) (H ++ M1) (H ++ M2) T hT (by rw [hlen, List.length_append, List.length_append]; omega) (by rw [hlen, List.length_append, List.length_append]; omega) (by omega) (by rw [List.length_append]; omega) (by rw [List.length_append]; omega) 10000 0 (by omega) (by omega)
            rw [show ((0 : Nat) : Int) = 0 from rfl] at r2
            rw [r2]
            rfl
        · have hse : (levelsS (l ++ c :: (m2 ++ 23 :: x)) b).2.2.2 = (levelsS (l ++ c :: (m1 ++ 23 :: x)) b).2.2.2 := by
            unfold levelsS
            rw [if_neg (show ¬ 65536 < (l ++ c :: (m2 ++ 23 :: x)).length by rw [hlen]; omega), if_neg (show ¬ 65536 < (l ++ c :: (m1 ++ 23 :: x)).length by rw [hlen]; omega), hall m1 v1, hall m2 v2]
            split
            · rfl
            split <;> rfl
          rw [hse, if_neg (fun e => e rfl)]
          by_cases hnk : (levelsS (l ++ c :: (m1 ++ 23 :: x)) b).2.2.1 = (levelsS (l ++ c :: (m2 ++ 23 :: x)) b).2.2.1
          · rw [if_neg (fun e => e hnk), if_pos he]
            simp only [Option.bind_some]
            simp
          · rw [if_pos hnk]
            simp only [Option.bind_some]
            simp
end Go.Proofs.Ytapfdafmhiilkaa
