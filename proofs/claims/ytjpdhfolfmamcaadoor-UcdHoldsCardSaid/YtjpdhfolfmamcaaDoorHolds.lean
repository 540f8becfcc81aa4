/-
  UcdHolds: mirrors come in twos; brackets are neutral, and their mirrors pair with them; marks join through, and extend clusters; Hangul syllables are wide, and in a script of their own; a space is none of a letter.
-/
import Derived.Test.YtjpdhfolfmamcaaDoorMir
import Derived.Test.YtjpdhfolfmamcaaDoorWks
namespace Go.Proofs.YtjpdhfolfmamcaaDoor
open Go Go.RowKit

/-- what holds of a character's numbers -/
def heldB (c j k s w p : Int) (syl : Bool) : Bool := (decide (c ≠ 9) || (decide (j = 4) && decide (k = 4))) && (syl == (decide (k = 11) || decide (k = 12))) && (!syl || (decide (w = 1) && decide (s = 6))) && (decide (p ≠ 1) || (decide (s = 0) && decide (c ≠ 1)))

theorem held_turns (b : Bool) (TC TJ TK TS TW TP : List (Int × Int × Int)) : TurnsAt (fun r => if heldB (classS TC r) (joiningS TJ r) (clusterSb b TK r) (scriptS TS r) (wideS TW r) (spaceS TP r) (sylB r) then 1 else 0) (docT TC ++ (docT TJ ++ (docT TK ++ (docT TS ++ (docT TW ++ docT TP))))) := by
  intro r p h
  have e1 := classS_turns TC r p (fun c hc => h c (by simp [hc]))
  have e2 := joiningS_turns TJ r p (fun c hc => h c (by simp [hc]))
  have e3 := clusterSb_turns b TK r p (fun c hc => h c (by simp [hc]))
  have e4 := scriptS_turns TS r p (fun c hc => h c (by simp [hc]))
  have e5 := wideS_turns TW r p (fun c hc => h c (by simp [hc]))
  have e6 := spaceS_turns TP r p (fun c hc => h c (by simp [hc]))
  have e7 := syl_doc TC r p (fun c hc => h c (by simp [hc]))
  show (if heldB (classS TC r) (joiningS TJ r) (clusterSb b TK r) (scriptS TS r) (wideS TW r) (spaceS TP r) (sylB r) then 1 else 0) = (if heldB (classS TC p) (joiningS TJ p) (clusterSb b TK p) (scriptS TS p) (wideS TW p) (spaceS TP p) (sylB p) then 1 else 0)
  rw [e1, e2, e3, e4, e5, e6, e7]

theorem held_any (r : Int) : heldB (classS (tableOf Tryd.f33) r) (joiningS (tableOf Tryd.f27) r) (clusterS (tableOf Tryd.f29) r) (scriptS (tableOf Tryd.f30) r) (wideS (tableOf Tryd.f31) r) (spaceS (tableOf Tryd.f32) r) (sylB r) = true := by
  have e : clusterS (tableOf Tryd.f29) r = clusterSb (openB r) (tableOf Tryd.f29) r := rfl
  rw [e]
  have h : ∀ b : Bool, (if heldB (classS (tableOf Tryd.f33) r) (joiningS (tableOf Tryd.f27) r) (clusterSb b (tableOf Tryd.f29) r) (scriptS (tableOf Tryd.f30) r) (wideS (tableOf Tryd.f31) r) (spaceS (tableOf Tryd.f32) r) (sylB r) then (1 : Int) else 0) = 1 := by
    intro b
    cases b with
    | true => exact same_all (g := fun _ => 1) (held_turns true _ _ _ _ _ _) (TurnsAt.const 1 []) (by kernel_rfl) (by kernel_rfl) r
    | false => exact same_all (g := fun _ => 1) (held_turns false _ _ _ _ _ _) (TurnsAt.const 1 []) (by kernel_rfl) (by kernel_rfl) r
  have h' := h (openB r)
  by_cases hb : heldB (classS (tableOf Tryd.f33) r) (joiningS (tableOf Tryd.f27) r) (clusterSb (openB r) (tableOf Tryd.f29) r) (scriptS (tableOf Tryd.f30) r) (wideS (tableOf Tryd.f31) r) (spaceS (tableOf Tryd.f32) r) (sylB r) = true
  · exact hb
  · rw [if_neg hb] at h'; cases h'

/-- mirrors come in twos -/
def twosB (T : List (Int × Int)) (C : List (Int × Int × Int)) (r : Int) : Bool := (mirrorS (othersL ++ T) (mirrorS (othersL ++ T) r).1 == (r, (mirrorS (othersL ++ T) r).2)) && (!(bracketS T r).2.2 || ((bracketS T (mirrorS (othersL ++ T) r).1 == ((bracketS T r).1, !(bracketS T r).2.1, true)) && decide (classS C r = 14)))

theorem twos_any (r : Int) : twosB (pairTable Tryd.f43) (tableOf Tryd.f33) r = true := by
  have hall : (mirL.all fun r => twosB (pairTable Tryd.f43) (tableOf Tryd.f33) r) = true := by kernel_rfl
  by_cases hr : r ∈ mirL
  · exact List.all_eq_true.1 hall r hr
  · have hn : ∀ j : Nat, j < 60 → mirL.getD j 0 ≠ r := by
      intro j hj e
      have hj' : j < mirL.length := hj
      refine hr (e ▸ ?_)
      rw [List.getD_eq_getElem?_getD, List.getElem?_eq_getElem hj']
      exact List.getElem_mem _
    have hok := mir_ok
    obtain ⟨T, hT⟩ : ∃ T, T = pairTable Tryd.f43 := ⟨_, rfl⟩
    rw [← hT] at hok ⊢
    have e1 := hok.none_mir r hn
    have e2 := hok.none_brk r hn
    unfold twosB
    rw [e1, e2]
    simp [e1]

set_option maxHeartbeats 8000000 in
set_option maxRecDepth 20000 in
theorem holds_walk (r : Int) (_hr : I32 r) (w : World) (hT : U8T w) (hm : MirW w) : Calls Tryd.prog 7 #[.int .i32 r] w fun e w' => e = .returned (.bool true) ∧ Below w.heap.size w w' := by
  have hheld := held_any r
  have htwos := twos_any r
  have hok := mir_ok
  obtain ⟨T, hTd⟩ : ∃ T, T = pairTable Tryd.f43 := ⟨_, rfl⟩
  rw [← hTd] at htwos hok
  have k1 := class_any r
  have k2 := joining_any r
  have k3 := cluster_any r
  have k4 := script_any r
  have k5 := wide_any r
  have k6 := space_any r
  rw [class_eq] at k1
  rw [joining_eq] at k2
  rw [cluster_eq] at k3
  rw [script_eq] at k4
  rw [wide_eq] at k5
  rw [space_eq] at k6
  obtain ⟨C, hC⟩ : ∃ C, C = tableOf Tryd.f33 := ⟨_, rfl⟩
  rw [← hC] at hheld htwos k1
  obtain ⟨c, hc⟩ : ∃ c, c = classS C r := ⟨_, rfl⟩
  obtain ⟨j, hj⟩ : ∃ j, j = joiningS (tableOf Tryd.f27) r := ⟨_, rfl⟩
  obtain ⟨k, hk⟩ : ∃ k, k = clusterS (tableOf Tryd.f29) r := ⟨_, rfl⟩
  obtain ⟨s, hs⟩ : ∃ s, s = scriptS (tableOf Tryd.f30) r := ⟨_, rfl⟩
  obtain ⟨wd, hwd⟩ : ∃ x, x = wideS (tableOf Tryd.f31) r := ⟨_, rfl⟩
  obtain ⟨sp, hsp⟩ : ∃ x, x = spaceS (tableOf Tryd.f32) r := ⟨_, rfl⟩
  rw [← hc, ← hj, ← hk, ← hs, ← hwd, ← hsp] at hheld
  unfold twosB at htwos
  rw [← hc] at k1 htwos
  rw [← hj] at k2
  rw [← hk] at k3
  rw [← hs] at k4
  rw [← hwd] at k5
  rw [← hsp] at k6
  have m1 := fun w hm => mirror_is T hok r w hm
  have m3 := fun w hm => bracket_is T hok r w hm
  obtain ⟨M, hM⟩ : ∃ M, M = mirrorS (othersL ++ T) r := ⟨_, rfl⟩
  simp only [← hM] at m1 htwos
  have m2 := fun w hm => mirror_is T hok M.1 w hm
  have m4 := fun w hm => bracket_is T hok M.1 w hm
  obtain ⟨B, hB⟩ : ∃ B, B = bracketS T r := ⟨_, rfl⟩
  simp only [← hB] at m3 htwos
  simp only [Bool.and_eq_true, beq_iff_eq] at htwos
  obtain ⟨ht1, ht2⟩ := htwos
  rw [ht1] at m2
  clear hC hc hj hk hs hwd hsp hM hB hTd hok ht1
  obtain ⟨mm, ok⟩ := M
  obtain ⟨b1, b2, b3⟩ := B
  simp only [] at m1 m2 m3 m4 ht2
  have K1 := Lib.hid k1
  have K2 := Lib.hid k2
  have K3 := Lib.hid k3
  have K4 := Lib.hid k4
  have K5 := Lib.hid k5
  have K6 := Lib.hid k6
  have M1 := Lib.hid m1
  have M2 := Lib.hid m2
  have M3 := Lib.hid m3
  have HM := Lib.hid hm
  have HU := Lib.hid hT
  clear k1 k2 k3 k4 k5 k6 m1 m2 m3 hm hT
  have hcase : (sylB r = true ∧ c ≠ 9 ∧ (k = 11 ∨ k = 12) ∧ wd = 1 ∧ s = 6) ∨ (sylB r = false ∧ k ≠ 11 ∧ k ≠ 12 ∧ (c = 9 → j = 4 ∧ k = 4)) := by
    unfold heldB at hheld
    simp only [Bool.and_eq_true, Bool.or_eq_true, beq_iff_eq, decide_eq_true_eq, Bool.not_eq_true'] at hheld
    obtain ⟨⟨⟨h1, h2⟩, h3⟩, h4⟩ := hheld
    cases hsy : sylB r with
    | true =>
      rw [hsy] at h2 h3
      have hk2 : k = 11 ∨ k = 12 := by simpa using h2.symm
      have h3' : wd = 1 ∧ s = 6 := by simpa using h3
      refine .inl ⟨rfl, ?_, hk2, h3'.1, h3'.2⟩
      rintro rfl
      rcases h1 with h1 | h1
      · exact h1 rfl
      · omega
    | false =>
      rw [hsy] at h2
      have hk2 : ¬ (k = 11 ∨ k = 12) := by simpa using h2.symm
      refine .inr ⟨rfl, fun h => hk2 (.inl h), fun h => hk2 (.inr h), fun h => ?_⟩
      rcases h1 with h1 | h1
      · exact absurd h h1
      · exact h1
  have hcase2 : sp ≠ 1 ∨ (sp = 1 ∧ s = 0 ∧ c ≠ 1) := by
    unfold heldB at hheld
    simp only [Bool.and_eq_true, Bool.or_eq_true, beq_iff_eq, decide_eq_true_eq] at hheld
    have := hheld.2
    by_cases h : sp = 1
    · rcases this with h' | h'
      · exact absurd h h'
      · exact .inr ⟨h, h'⟩
    · exact .inl h
  clear hheld
  have HC1 := Lib.hid hcase
  have HC2 := Lib.hid hcase2
  have HT2 := Lib.hid ht2
  have M4 := Lib.hid m4
  clear hcase hcase2 ht2 m4
  cases b3 with
  | false =>
    have m4 := M4.out
    obtain ⟨X, hX⟩ : ∃ X, X = bracketS T mm := ⟨_, rfl⟩
    simp only [← hX] at m4
    obtain ⟨x1, x2, x3⟩ := X
    simp only [] at m4
    clear hX M4 HT2
    have M4 := Lib.hid m4
    clear m4
    rcases HC1.out with ⟨hsy, hc9, hk, hwd, hs⟩ | ⟨hsy, hk1, hk2, hmk⟩
    · have b1 : (c == 9) = false := by simp [hc9]
      have hb : 44032 ≤ r ∧ r ≤ 55203 := by
        unfold sylB at hsy
        simpa [Bool.and_eq_true, decide_eq_true_eq] using hsy
      have b2 : ((44032 : Int) ≤ r) = True := by simp [hb.1]
      have b3 : (r ≤ 55203) = True := by simp [hb.2]
      have b4 : decide (wd = 1) = true := by simp [hwd]
      subst hs
      clear hsy hb hc9 hwd
      have b5 : (sp = 1) = False := by
        rcases HC2.out with h | h
        · simp [h]
        · omega
      rcases hk with rfl | rfl
      · go_enter Tryd.func7, Tryd.ntmps7
        go_wp2_with fail
        refine (M1.out _ HM.out).mono ?_
        rintro e w' ⟨rfl, rfl⟩
        go_wp2_with fail
        refine (M2.out _ HM.out).mono ?_
        rintro e w' ⟨rfl, rfl⟩
        go_wp2_with fail
        refine (M3.out _ HM.out).mono ?_
        rintro e w' ⟨rfl, rfl⟩
        go_wp2_with fail
        refine (M4.out _ HM.out).mono ?_
        rintro e w' ⟨rfl, rfl⟩
        go_wp2_with fail
        refine (K1.out _).mono ?_
        rintro e w' ⟨rfl, rfl⟩
        go_wp2_with fail
        refine (K3.out _).mono ?_
        rintro e w' ⟨rfl, rfl⟩
        go_wp2_with fail
        refine (K5.out _).mono ?_
        rintro e w' ⟨rfl, rfl⟩
        go_wp2_with fail
        refine (K4.out _).mono ?_
        rintro e w' ⟨rfl, rfl⟩
        go_wp2_with fail
        refine (K6.out _).mono ?_
        rintro e w' ⟨rfl, rfl⟩
        go_wp2_with fail
        refine (works_any _ HU.out).mono ?_
        rintro e w2 ⟨rfl, hb⟩
        go_wp2_with fail
        go_ret
        exact ⟨rfl, hb⟩
      · go_enter Tryd.func7, Tryd.ntmps7
        go_wp2_with fail
        refine (M1.out _ HM.out).mono ?_
        rintro e w' ⟨rfl, rfl⟩
        go_wp2_with fail
        refine (M2.out _ HM.out).mono ?_
        rintro e w' ⟨rfl, rfl⟩
        go_wp2_with fail
        refine (M3.out _ HM.out).mono ?_
        rintro e w' ⟨rfl, rfl⟩
        go_wp2_with fail
        refine (M4.out _ HM.out).mono ?_
        rintro e w' ⟨rfl, rfl⟩
        go_wp2_with fail
        refine (K1.out _).mono ?_
        rintro e w' ⟨rfl, rfl⟩
        go_wp2_with fail
        refine (K3.out _).mono ?_
        rintro e w' ⟨rfl, rfl⟩
        go_wp2_with fail
        refine (K5.out _).mono ?_
        rintro e w' ⟨rfl, rfl⟩
        go_wp2_with fail
        refine (K4.out _).mono ?_
        rintro e w' ⟨rfl, rfl⟩
        go_wp2_with fail
        refine (K6.out _).mono ?_
        rintro e w' ⟨rfl, rfl⟩
        go_wp2_with fail
        refine (works_any _ HU.out).mono ?_
        rintro e w2 ⟨rfl, hb⟩
        go_wp2_with fail
        go_ret
        exact ⟨rfl, hb⟩
    · have b6 : (k == 11) = false := by simp [hk1]
      have b7 : (k == 12) = false := by simp [hk2]
      clear hk1 hk2
      have hlh : ((44032 : Int) ≤ r) = False ∨ (((44032 : Int) ≤ r) = True ∧ (r ≤ 55203) = False) := by
        unfold sylB at hsy
        simp only [Bool.and_eq_false_iff, decide_eq_false_iff_not] at hsy
        by_cases h : 44032 ≤ r
        · exact .inr ⟨by simp [h], by simp; omega⟩
        · exact .inl (by simp; omega)
      clear hsy
      rcases hlh with b2 | ⟨b2, b3⟩
      · rcases HC2.out with hsp | ⟨hsp, hs, hc1⟩
        · have b5 : (sp = 1) = False := by simp [hsp]
          clear hsp
          by_cases h9 : c = 9
          · obtain ⟨rfl, rfl⟩ := hmk h9
            subst h9
            clear hmk 
            go_enter Tryd.func7, Tryd.ntmps7
            go_wp2_with fail
            refine (M1.out _ HM.out).mono ?_
            rintro e w' ⟨rfl, rfl⟩
            go_wp2_with fail
            refine (M2.out _ HM.out).mono ?_
            rintro e w' ⟨rfl, rfl⟩
            go_wp2_with fail
            refine (M3.out _ HM.out).mono ?_
            rintro e w' ⟨rfl, rfl⟩
            go_wp2_with fail
            refine (M4.out _ HM.out).mono ?_
            rintro e w' ⟨rfl, rfl⟩
            go_wp2_with fail
            refine (K1.out _).mono ?_
            rintro e w' ⟨rfl, rfl⟩
            go_wp2_with fail
            refine (K3.out _).mono ?_
            rintro e w' ⟨rfl, rfl⟩
            go_wp2_with fail
            refine (K2.out _).mono ?_
            rintro e w' ⟨rfl, rfl⟩
            go_wp2_with fail
            refine (K6.out _).mono ?_
            rintro e w' ⟨rfl, rfl⟩
            go_wp2_with fail
            refine (works_any _ HU.out).mono ?_
            rintro e w2 ⟨rfl, hb⟩
            go_wp2_with fail
            go_ret
            exact ⟨rfl, hb⟩
          · have b1 : (c == 9) = false := by simp [h9]
            clear h9 hmk 
            go_enter Tryd.func7, Tryd.ntmps7
            go_wp2_with fail
            refine (M1.out _ HM.out).mono ?_
            rintro e w' ⟨rfl, rfl⟩
            go_wp2_with fail
            refine (M2.out _ HM.out).mono ?_
            rintro e w' ⟨rfl, rfl⟩
            go_wp2_with fail
            refine (M3.out _ HM.out).mono ?_
            rintro e w' ⟨rfl, rfl⟩
            go_wp2_with fail
            refine (M4.out _ HM.out).mono ?_
            rintro e w' ⟨rfl, rfl⟩
            go_wp2_with fail
            refine (K1.out _).mono ?_
            rintro e w' ⟨rfl, rfl⟩
            go_wp2_with fail
            refine (K3.out _).mono ?_
            rintro e w' ⟨rfl, rfl⟩
            go_wp2_with fail
            refine (K6.out _).mono ?_
            rintro e w' ⟨rfl, rfl⟩
            go_wp2_with fail
            refine (works_any _ HU.out).mono ?_
            rintro e w2 ⟨rfl, hb⟩
            go_wp2_with fail
            go_ret
            exact ⟨rfl, hb⟩
        · have b5 : (sp = 1) = True := by simp [hsp]
          have b8 : (c == 1) = false := by simp [hc1]
          have b9 : (c != 1) = true := by simp [hc1]
          subst hs
          clear hsp
          by_cases h9 : c = 9
          · obtain ⟨rfl, rfl⟩ := hmk h9
            subst h9
            clear hmk hc1
            go_enter Tryd.func7, Tryd.ntmps7
            go_wp2_with fail
            refine (M1.out _ HM.out).mono ?_
            rintro e w' ⟨rfl, rfl⟩
            go_wp2_with fail
            refine (M2.out _ HM.out).mono ?_
            rintro e w' ⟨rfl, rfl⟩
            go_wp2_with fail
            refine (M3.out _ HM.out).mono ?_
            rintro e w' ⟨rfl, rfl⟩
            go_wp2_with fail
            refine (M4.out _ HM.out).mono ?_
            rintro e w' ⟨rfl, rfl⟩
            go_wp2_with fail
            refine (K1.out _).mono ?_
            rintro e w' ⟨rfl, rfl⟩
            go_wp2_with fail
            refine (K3.out _).mono ?_
            rintro e w' ⟨rfl, rfl⟩
            go_wp2_with fail
            refine (K2.out _).mono ?_
            rintro e w' ⟨rfl, rfl⟩
            go_wp2_with fail
            refine (K6.out _).mono ?_
            rintro e w' ⟨rfl, rfl⟩
            go_wp2_with fail
            refine (K4.out _).mono ?_
            rintro e w' ⟨rfl, rfl⟩
            go_wp2_with fail
            refine (K1.out _).mono ?_
            rintro e w' ⟨rfl, rfl⟩
            go_wp2_with fail
            refine (works_any _ HU.out).mono ?_
            rintro e w2 ⟨rfl, hb⟩
            go_wp2_with fail
            go_ret
            exact ⟨rfl, hb⟩
          · have b1 : (c == 9) = false := by simp [h9]
            clear h9 hmk hc1
            go_enter Tryd.func7, Tryd.ntmps7
            go_wp2_with fail
            refine (M1.out _ HM.out).mono ?_
            rintro e w' ⟨rfl, rfl⟩
            go_wp2_with fail
            refine (M2.out _ HM.out).mono ?_
            rintro e w' ⟨rfl, rfl⟩
            go_wp2_with fail
            refine (M3.out _ HM.out).mono ?_
            rintro e w' ⟨rfl, rfl⟩
            go_wp2_with fail
            refine (M4.out _ HM.out).mono ?_
            rintro e w' ⟨rfl, rfl⟩
            go_wp2_with fail
            refine (K1.out _).mono ?_
            rintro e w' ⟨rfl, rfl⟩
            go_wp2_with fail
            refine (K3.out _).mono ?_
            rintro e w' ⟨rfl, rfl⟩
            go_wp2_with fail
            refine (K6.out _).mono ?_
            rintro e w' ⟨rfl, rfl⟩
            go_wp2_with fail
            refine (K4.out _).mono ?_
            rintro e w' ⟨rfl, rfl⟩
            go_wp2_with fail
            refine (K1.out _).mono ?_
            rintro e w' ⟨rfl, rfl⟩
            go_wp2_with fail
            refine (works_any _ HU.out).mono ?_
            rintro e w2 ⟨rfl, hb⟩
            go_wp2_with fail
            go_ret
            exact ⟨rfl, hb⟩
      · rcases HC2.out with hsp | ⟨hsp, hs, hc1⟩
        · have b5 : (sp = 1) = False := by simp [hsp]
          clear hsp
          by_cases h9 : c = 9
          · obtain ⟨rfl, rfl⟩ := hmk h9
            subst h9
            clear hmk 
            go_enter Tryd.func7, Tryd.ntmps7
            go_wp2_with fail
            refine (M1.out _ HM.out).mono ?_
            rintro e w' ⟨rfl, rfl⟩
            go_wp2_with fail
            refine (M2.out _ HM.out).mono ?_
            rintro e w' ⟨rfl, rfl⟩
            go_wp2_with fail
            refine (M3.out _ HM.out).mono ?_
            rintro e w' ⟨rfl, rfl⟩
            go_wp2_with fail
            refine (M4.out _ HM.out).mono ?_
            rintro e w' ⟨rfl, rfl⟩
            go_wp2_with fail
            refine (K1.out _).mono ?_
            rintro e w' ⟨rfl, rfl⟩
            go_wp2_with fail
            refine (K3.out _).mono ?_
            rintro e w' ⟨rfl, rfl⟩
            go_wp2_with fail
            refine (K2.out _).mono ?_
            rintro e w' ⟨rfl, rfl⟩
            go_wp2_with fail
            refine (K6.out _).mono ?_
            rintro e w' ⟨rfl, rfl⟩
            go_wp2_with fail
            refine (works_any _ HU.out).mono ?_
            rintro e w2 ⟨rfl, hb⟩
            go_wp2_with fail
            go_ret
            exact ⟨rfl, hb⟩
          · have b1 : (c == 9) = false := by simp [h9]
            clear h9 hmk 
            go_enter Tryd.func7, Tryd.ntmps7
            go_wp2_with fail
            refine (M1.out _ HM.out).mono ?_
            rintro e w' ⟨rfl, rfl⟩
            go_wp2_with fail
            refine (M2.out _ HM.out).mono ?_
            rintro e w' ⟨rfl, rfl⟩
            go_wp2_with fail
            refine (M3.out _ HM.out).mono ?_
            rintro e w' ⟨rfl, rfl⟩
            go_wp2_with fail
            refine (M4.out _ HM.out).mono ?_
            rintro e w' ⟨rfl, rfl⟩
            go_wp2_with fail
            refine (K1.out _).mono ?_
            rintro e w' ⟨rfl, rfl⟩
            go_wp2_with fail
            refine (K3.out _).mono ?_
            rintro e w' ⟨rfl, rfl⟩
            go_wp2_with fail
            refine (K6.out _).mono ?_
            rintro e w' ⟨rfl, rfl⟩
            go_wp2_with fail
            refine (works_any _ HU.out).mono ?_
            rintro e w2 ⟨rfl, hb⟩
            go_wp2_with fail
            go_ret
            exact ⟨rfl, hb⟩
        · have b5 : (sp = 1) = True := by simp [hsp]
          have b8 : (c == 1) = false := by simp [hc1]
          have b9 : (c != 1) = true := by simp [hc1]
          subst hs
          clear hsp
          by_cases h9 : c = 9
          · obtain ⟨rfl, rfl⟩ := hmk h9
            subst h9
            clear hmk hc1
            go_enter Tryd.func7, Tryd.ntmps7
            go_wp2_with fail
            refine (M1.out _ HM.out).mono ?_
            rintro e w' ⟨rfl, rfl⟩
            go_wp2_with fail
            refine (M2.out _ HM.out).mono ?_
            rintro e w' ⟨rfl, rfl⟩
            go_wp2_with fail
            refine (M3.out _ HM.out).mono ?_
            rintro e w' ⟨rfl, rfl⟩
            go_wp2_with fail
            refine (M4.out _ HM.out).mono ?_
            rintro e w' ⟨rfl, rfl⟩
            go_wp2_with fail
            refine (K1.out _).mono ?_
            rintro e w' ⟨rfl, rfl⟩
            go_wp2_with fail
            refine (K3.out _).mono ?_
            rintro e w' ⟨rfl, rfl⟩
            go_wp2_with fail
            refine (K2.out _).mono ?_
            rintro e w' ⟨rfl, rfl⟩
            go_wp2_with fail
            refine (K6.out _).mono ?_
            rintro e w' ⟨rfl, rfl⟩
            go_wp2_with fail
            refine (K4.out _).mono ?_
            rintro e w' ⟨rfl, rfl⟩
            go_wp2_with fail
            refine (K1.out _).mono ?_
            rintro e w' ⟨rfl, rfl⟩
            go_wp2_with fail
            refine (works_any _ HU.out).mono ?_
            rintro e w2 ⟨rfl, hb⟩
            go_wp2_with fail
            go_ret
            exact ⟨rfl, hb⟩
          · have b1 : (c == 9) = false := by simp [h9]
            clear h9 hmk hc1
            go_enter Tryd.func7, Tryd.ntmps7
            go_wp2_with fail
            refine (M1.out _ HM.out).mono ?_
            rintro e w' ⟨rfl, rfl⟩
            go_wp2_with fail
            refine (M2.out _ HM.out).mono ?_
            rintro e w' ⟨rfl, rfl⟩
            go_wp2_with fail
            refine (M3.out _ HM.out).mono ?_
            rintro e w' ⟨rfl, rfl⟩
            go_wp2_with fail
            refine (M4.out _ HM.out).mono ?_
            rintro e w' ⟨rfl, rfl⟩
            go_wp2_with fail
            refine (K1.out _).mono ?_
            rintro e w' ⟨rfl, rfl⟩
            go_wp2_with fail
            refine (K3.out _).mono ?_
            rintro e w' ⟨rfl, rfl⟩
            go_wp2_with fail
            refine (K6.out _).mono ?_
            rintro e w' ⟨rfl, rfl⟩
            go_wp2_with fail
            refine (K4.out _).mono ?_
            rintro e w' ⟨rfl, rfl⟩
            go_wp2_with fail
            refine (K1.out _).mono ?_
            rintro e w' ⟨rfl, rfl⟩
            go_wp2_with fail
            refine (works_any _ HU.out).mono ?_
            rintro e w2 ⟨rfl, hb⟩
            go_wp2_with fail
            go_ret
            exact ⟨rfl, hb⟩
  | true =>
    have m4 := M4.out
    have ht2 := HT2.out
    simp only [Bool.not_true, Bool.false_or, Bool.and_eq_true, beq_iff_eq, decide_eq_true_eq] at ht2
    obtain ⟨e1, e2⟩ : bracketS T mm = (b1, !b2, true) ∧ c = 14 := by simpa using ht2
    simp only [e1] at m4
    clear e1 ht2 HT2 M4
    subst e2
    have M4 := Lib.hid m4
    clear m4
    cases b2 with
    | true =>
      rcases HC1.out with ⟨hsy, hc9, hk, hwd, hs⟩ | ⟨hsy, hk1, hk2, hmk⟩
      · have hb : 44032 ≤ r ∧ r ≤ 55203 := by
          unfold sylB at hsy
          simpa [Bool.and_eq_true, decide_eq_true_eq] using hsy
        have b2 : ((44032 : Int) ≤ r) = True := by simp [hb.1]
        have b3 : (r ≤ 55203) = True := by simp [hb.2]
        have b4 : decide (wd = 1) = true := by simp [hwd]
        subst hs
        clear hsy hb hc9 hwd
        have b5 : (sp = 1) = False := by
          rcases HC2.out with h | h
          · simp [h]
          · omega
        rcases hk with rfl | rfl
        · go_enter Tryd.func7, Tryd.ntmps7
          go_wp2_with fail
          refine (M1.out _ HM.out).mono ?_
          rintro e w' ⟨rfl, rfl⟩
          go_wp2_with fail
          refine (M2.out _ HM.out).mono ?_
          rintro e w' ⟨rfl, rfl⟩
          go_wp2_with fail
          refine (M3.out _ HM.out).mono ?_
          rintro e w' ⟨rfl, rfl⟩
          go_wp2_with fail
          refine (M4.out _ HM.out).mono ?_
          rintro e w' ⟨rfl, rfl⟩
          go_wp2_with fail
          refine (K1.out _).mono ?_
          rintro e w' ⟨rfl, rfl⟩
          go_wp2_with fail
          refine (K1.out _).mono ?_
          rintro e w' ⟨rfl, rfl⟩
          go_wp2_with fail
          refine (K3.out _).mono ?_
          rintro e w' ⟨rfl, rfl⟩
          go_wp2_with fail
          refine (K5.out _).mono ?_
          rintro e w' ⟨rfl, rfl⟩
          go_wp2_with fail
          refine (K4.out _).mono ?_
          rintro e w' ⟨rfl, rfl⟩
          go_wp2_with fail
          refine (K6.out _).mono ?_
          rintro e w' ⟨rfl, rfl⟩
          go_wp2_with fail
          refine (works_any _ HU.out).mono ?_
          rintro e w2 ⟨rfl, hb⟩
          go_wp2_with fail
          go_ret
          exact ⟨rfl, hb⟩
        · go_enter Tryd.func7, Tryd.ntmps7
          go_wp2_with fail
          refine (M1.out _ HM.out).mono ?_
          rintro e w' ⟨rfl, rfl⟩
          go_wp2_with fail
          refine (M2.out _ HM.out).mono ?_
          rintro e w' ⟨rfl, rfl⟩
          go_wp2_with fail
          refine (M3.out _ HM.out).mono ?_
          rintro e w' ⟨rfl, rfl⟩
          go_wp2_with fail
          refine (M4.out _ HM.out).mono ?_
          rintro e w' ⟨rfl, rfl⟩
          go_wp2_with fail
          refine (K1.out _).mono ?_
          rintro e w' ⟨rfl, rfl⟩
          go_wp2_with fail
          refine (K1.out _).mono ?_
          rintro e w' ⟨rfl, rfl⟩
          go_wp2_with fail
          refine (K3.out _).mono ?_
          rintro e w' ⟨rfl, rfl⟩
          go_wp2_with fail
          refine (K5.out _).mono ?_
          rintro e w' ⟨rfl, rfl⟩
          go_wp2_with fail
          refine (K4.out _).mono ?_
          rintro e w' ⟨rfl, rfl⟩
          go_wp2_with fail
          refine (K6.out _).mono ?_
          rintro e w' ⟨rfl, rfl⟩
          go_wp2_with fail
          refine (works_any _ HU.out).mono ?_
          rintro e w2 ⟨rfl, hb⟩
          go_wp2_with fail
          go_ret
          exact ⟨rfl, hb⟩
      · have b6 : (k == 11) = false := by simp [hk1]
        have b7 : (k == 12) = false := by simp [hk2]
        clear hk1 hk2 hmk
        have hlh : ((44032 : Int) ≤ r) = False ∨ (((44032 : Int) ≤ r) = True ∧ (r ≤ 55203) = False) := by
          unfold sylB at hsy
          simp only [Bool.and_eq_false_iff, decide_eq_false_iff_not] at hsy
          by_cases h : 44032 ≤ r
          · exact .inr ⟨by simp [h], by simp; omega⟩
          · exact .inl (by simp; omega)
        clear hsy
        rcases hlh with b2 | ⟨b2, b3⟩
        · rcases HC2.out with hsp | ⟨hsp, hs, hc1⟩
          · have b5 : (sp = 1) = False := by simp [hsp]
            clear hsp
            go_enter Tryd.func7, Tryd.ntmps7
            go_wp2_with fail
            refine (M1.out _ HM.out).mono ?_
            rintro e w' ⟨rfl, rfl⟩
            go_wp2_with fail
            refine (M2.out _ HM.out).mono ?_
            rintro e w' ⟨rfl, rfl⟩
            go_wp2_with fail
            refine (M3.out _ HM.out).mono ?_
            rintro e w' ⟨rfl, rfl⟩
            go_wp2_with fail
            refine (M4.out _ HM.out).mono ?_
            rintro e w' ⟨rfl, rfl⟩
            go_wp2_with fail
            refine (K1.out _).mono ?_
            rintro e w' ⟨rfl, rfl⟩
            go_wp2_with fail
            refine (K1.out _).mono ?_
            rintro e w' ⟨rfl, rfl⟩
            go_wp2_with fail
            refine (K3.out _).mono ?_
            rintro e w' ⟨rfl, rfl⟩
            go_wp2_with fail
            refine (K6.out _).mono ?_
            rintro e w' ⟨rfl, rfl⟩
            go_wp2_with fail
            refine (works_any _ HU.out).mono ?_
            rintro e w2 ⟨rfl, hb⟩
            go_wp2_with fail
            go_ret
            exact ⟨rfl, hb⟩
          · have b5 : (sp = 1) = True := by simp [hsp]
            subst hs
            clear hsp hc1
            go_enter Tryd.func7, Tryd.ntmps7
            go_wp2_with fail
            refine (M1.out _ HM.out).mono ?_
            rintro e w' ⟨rfl, rfl⟩
            go_wp2_with fail
            refine (M2.out _ HM.out).mono ?_
            rintro e w' ⟨rfl, rfl⟩
            go_wp2_with fail
            refine (M3.out _ HM.out).mono ?_
            rintro e w' ⟨rfl, rfl⟩
            go_wp2_with fail
            refine (M4.out _ HM.out).mono ?_
            rintro e w' ⟨rfl, rfl⟩
            go_wp2_with fail
            refine (K1.out _).mono ?_
            rintro e w' ⟨rfl, rfl⟩
            go_wp2_with fail
            refine (K1.out _).mono ?_
            rintro e w' ⟨rfl, rfl⟩
            go_wp2_with fail
            refine (K3.out _).mono ?_
            rintro e w' ⟨rfl, rfl⟩
            go_wp2_with fail
            refine (K6.out _).mono ?_
            rintro e w' ⟨rfl, rfl⟩
            go_wp2_with fail
            refine (K4.out _).mono ?_
            rintro e w' ⟨rfl, rfl⟩
            go_wp2_with fail
            refine (K1.out _).mono ?_
            rintro e w' ⟨rfl, rfl⟩
            go_wp2_with fail
            refine (works_any _ HU.out).mono ?_
            rintro e w2 ⟨rfl, hb⟩
            go_wp2_with fail
            go_ret
            exact ⟨rfl, hb⟩
        · rcases HC2.out with hsp | ⟨hsp, hs, hc1⟩
          · have b5 : (sp = 1) = False := by simp [hsp]
            clear hsp
            go_enter Tryd.func7, Tryd.ntmps7
            go_wp2_with fail
            refine (M1.out _ HM.out).mono ?_
            rintro e w' ⟨rfl, rfl⟩
            go_wp2_with fail
            refine (M2.out _ HM.out).mono ?_
            rintro e w' ⟨rfl, rfl⟩
            go_wp2_with fail
            refine (M3.out _ HM.out).mono ?_
            rintro e w' ⟨rfl, rfl⟩
            go_wp2_with fail
            refine (M4.out _ HM.out).mono ?_
            rintro e w' ⟨rfl, rfl⟩
            go_wp2_with fail
            refine (K1.out _).mono ?_
            rintro e w' ⟨rfl, rfl⟩
            go_wp2_with fail
            refine (K1.out _).mono ?_
            rintro e w' ⟨rfl, rfl⟩
            go_wp2_with fail
            refine (K3.out _).mono ?_
            rintro e w' ⟨rfl, rfl⟩
            go_wp2_with fail
            refine (K6.out _).mono ?_
            rintro e w' ⟨rfl, rfl⟩
            go_wp2_with fail
            refine (works_any _ HU.out).mono ?_
            rintro e w2 ⟨rfl, hb⟩
            go_wp2_with fail
            go_ret
            exact ⟨rfl, hb⟩
          · have b5 : (sp = 1) = True := by simp [hsp]
            subst hs
            clear hsp hc1
            go_enter Tryd.func7, Tryd.ntmps7
            go_wp2_with fail
            refine (M1.out _ HM.out).mono ?_
            rintro e w' ⟨rfl, rfl⟩
            go_wp2_with fail
            refine (M2.out _ HM.out).mono ?_
            rintro e w' ⟨rfl, rfl⟩
            go_wp2_with fail
            refine (M3.out _ HM.out).mono ?_
            rintro e w' ⟨rfl, rfl⟩
            go_wp2_with fail
            refine (M4.out _ HM.out).mono ?_
            rintro e w' ⟨rfl, rfl⟩
            go_wp2_with fail
            refine (K1.out _).mono ?_
            rintro e w' ⟨rfl, rfl⟩
            go_wp2_with fail
            refine (K1.out _).mono ?_
            rintro e w' ⟨rfl, rfl⟩
            go_wp2_with fail
            refine (K3.out _).mono ?_
            rintro e w' ⟨rfl, rfl⟩
            go_wp2_with fail
            refine (K6.out _).mono ?_
            rintro e w' ⟨rfl, rfl⟩
            go_wp2_with fail
            refine (K4.out _).mono ?_
            rintro e w' ⟨rfl, rfl⟩
            go_wp2_with fail
            refine (K1.out _).mono ?_
            rintro e w' ⟨rfl, rfl⟩
            go_wp2_with fail
            refine (works_any _ HU.out).mono ?_
            rintro e w2 ⟨rfl, hb⟩
            go_wp2_with fail
            go_ret
            exact ⟨rfl, hb⟩
    | false =>
      rcases HC1.out with ⟨hsy, hc9, hk, hwd, hs⟩ | ⟨hsy, hk1, hk2, hmk⟩
      · have hb : 44032 ≤ r ∧ r ≤ 55203 := by
          unfold sylB at hsy
          simpa [Bool.and_eq_true, decide_eq_true_eq] using hsy
        have b2 : ((44032 : Int) ≤ r) = True := by simp [hb.1]
        have b3 : (r ≤ 55203) = True := by simp [hb.2]
        have b4 : decide (wd = 1) = true := by simp [hwd]
        subst hs
        clear hsy hb hc9 hwd
        have b5 : (sp = 1) = False := by
          rcases HC2.out with h | h
          · simp [h]
          · omega
        rcases hk with rfl | rfl
        · go_enter Tryd.func7, Tryd.ntmps7
          go_wp2_with fail
          refine (M1.out _ HM.out).mono ?_
          rintro e w' ⟨rfl, rfl⟩
          go_wp2_with fail
          refine (M2.out _ HM.out).mono ?_
          rintro e w' ⟨rfl, rfl⟩
          go_wp2_with fail
          refine (M3.out _ HM.out).mono ?_
          rintro e w' ⟨rfl, rfl⟩
          go_wp2_with fail
          refine (M4.out _ HM.out).mono ?_
          rintro e w' ⟨rfl, rfl⟩
          go_wp2_with fail
          refine (K1.out _).mono ?_
          rintro e w' ⟨rfl, rfl⟩
          go_wp2_with fail
          refine (K1.out _).mono ?_
          rintro e w' ⟨rfl, rfl⟩
          go_wp2_with fail
          refine (K3.out _).mono ?_
          rintro e w' ⟨rfl, rfl⟩
          go_wp2_with fail
          refine (K5.out _).mono ?_
          rintro e w' ⟨rfl, rfl⟩
          go_wp2_with fail
          refine (K4.out _).mono ?_
          rintro e w' ⟨rfl, rfl⟩
          go_wp2_with fail
          refine (K6.out _).mono ?_
          rintro e w' ⟨rfl, rfl⟩
          go_wp2_with fail
          refine (works_any _ HU.out).mono ?_
          rintro e w2 ⟨rfl, hb⟩
          go_wp2_with fail
          go_ret
          exact ⟨rfl, hb⟩
        · go_enter Tryd.func7, Tryd.ntmps7
          go_wp2_with fail
          refine (M1.out _ HM.out).mono ?_
          rintro e w' ⟨rfl, rfl⟩
          go_wp2_with fail
          refine (M2.out _ HM.out).mono ?_
          rintro e w' ⟨rfl, rfl⟩
          go_wp2_with fail
          refine (M3.out _ HM.out).mono ?_
          rintro e w' ⟨rfl, rfl⟩
          go_wp2_with fail
          refine (M4.out _ HM.out).mono ?_
          rintro e w' ⟨rfl, rfl⟩
          go_wp2_with fail
          refine (K1.out _).mono ?_
          rintro e w' ⟨rfl, rfl⟩
          go_wp2_with fail
          refine (K1.out _).mono ?_
          rintro e w' ⟨rfl, rfl⟩
          go_wp2_with fail
          refine (K3.out _).mono ?_
          rintro e w' ⟨rfl, rfl⟩
          go_wp2_with fail
          refine (K5.out _).mono ?_
          rintro e w' ⟨rfl, rfl⟩
          go_wp2_with fail
          refine (K4.out _).mono ?_
          rintro e w' ⟨rfl, rfl⟩
          go_wp2_with fail
          refine (K6.out _).mono ?_
          rintro e w' ⟨rfl, rfl⟩
          go_wp2_with fail
          refine (works_any _ HU.out).mono ?_
          rintro e w2 ⟨rfl, hb⟩
          go_wp2_with fail
          go_ret
          exact ⟨rfl, hb⟩
      · have b6 : (k == 11) = false := by simp [hk1]
        have b7 : (k == 12) = false := by simp [hk2]
        clear hk1 hk2 hmk
        have hlh : ((44032 : Int) ≤ r) = False ∨ (((44032 : Int) ≤ r) = True ∧ (r ≤ 55203) = False) := by
          unfold sylB at hsy
          simp only [Bool.and_eq_false_iff, decide_eq_false_iff_not] at hsy
          by_cases h : 44032 ≤ r
          · exact .inr ⟨by simp [h], by simp; omega⟩
          · exact .inl (by simp; omega)
        clear hsy
        rcases hlh with b2 | ⟨b2, b3⟩
        · rcases HC2.out with hsp | ⟨hsp, hs, hc1⟩
          · have b5 : (sp = 1) = False := by simp [hsp]
            clear hsp
            go_enter Tryd.func7, Tryd.ntmps7
            go_wp2_with fail
            refine (M1.out _ HM.out).mono ?_
            rintro e w' ⟨rfl, rfl⟩
            go_wp2_with fail
            refine (M2.out _ HM.out).mono ?_
            rintro e w' ⟨rfl, rfl⟩
            go_wp2_with fail
            refine (M3.out _ HM.out).mono ?_
            rintro e w' ⟨rfl, rfl⟩
            go_wp2_with fail
            refine (M4.out _ HM.out).mono ?_
            rintro e w' ⟨rfl, rfl⟩
            go_wp2_with fail
            refine (K1.out _).mono ?_
            rintro e w' ⟨rfl, rfl⟩
            go_wp2_with fail
            refine (K1.out _).mono ?_
            rintro e w' ⟨rfl, rfl⟩
            go_wp2_with fail
            refine (K3.out _).mono ?_
            rintro e w' ⟨rfl, rfl⟩
            go_wp2_with fail
            refine (K6.out _).mono ?_
            rintro e w' ⟨rfl, rfl⟩
            go_wp2_with fail
            refine (works_any _ HU.out).mono ?_
            rintro e w2 ⟨rfl, hb⟩
            go_wp2_with fail
            go_ret
            exact ⟨rfl, hb⟩
          · have b5 : (sp = 1) = True := by simp [hsp]
            subst hs
            clear hsp hc1
            go_enter Tryd.func7, Tryd.ntmps7
            go_wp2_with fail
            refine (M1.out _ HM.out).mono ?_
            rintro e w' ⟨rfl, rfl⟩
            go_wp2_with fail
            refine (M2.out _ HM.out).mono ?_
            rintro e w' ⟨rfl, rfl⟩
            go_wp2_with fail
            refine (M3.out _ HM.out).mono ?_
            rintro e w' ⟨rfl, rfl⟩
            go_wp2_with fail
            refine (M4.out _ HM.out).mono ?_
            rintro e w' ⟨rfl, rfl⟩
            go_wp2_with fail
            refine (K1.out _).mono ?_
            rintro e w' ⟨rfl, rfl⟩
            go_wp2_with fail
            refine (K1.out _).mono ?_
            rintro e w' ⟨rfl, rfl⟩
            go_wp2_with fail
            refine (K3.out _).mono ?_
            rintro e w' ⟨rfl, rfl⟩
            go_wp2_with fail
            refine (K6.out _).mono ?_
            rintro e w' ⟨rfl, rfl⟩
            go_wp2_with fail
            refine (K4.out _).mono ?_
            rintro e w' ⟨rfl, rfl⟩
            go_wp2_with fail
            refine (K1.out _).mono ?_
            rintro e w' ⟨rfl, rfl⟩
            go_wp2_with fail
            refine (works_any _ HU.out).mono ?_
            rintro e w2 ⟨rfl, hb⟩
            go_wp2_with fail
            go_ret
            exact ⟨rfl, hb⟩
        · rcases HC2.out with hsp | ⟨hsp, hs, hc1⟩
          · have b5 : (sp = 1) = False := by simp [hsp]
            clear hsp
            go_enter Tryd.func7, Tryd.ntmps7
            go_wp2_with fail
            refine (M1.out _ HM.out).mono ?_
            rintro e w' ⟨rfl, rfl⟩
            go_wp2_with fail
            refine (M2.out _ HM.out).mono ?_
            rintro e w' ⟨rfl, rfl⟩
            go_wp2_with fail
            refine (M3.out _ HM.out).mono ?_
            rintro e w' ⟨rfl, rfl⟩
            go_wp2_with fail
            refine (M4.out _ HM.out).mono ?_
            rintro e w' ⟨rfl, rfl⟩
            go_wp2_with fail
            refine (K1.out _).mono ?_
            rintro e w' ⟨rfl, rfl⟩
            go_wp2_with fail
            refine (K1.out _).mono ?_
            rintro e w' ⟨rfl, rfl⟩
            go_wp2_with fail
            refine (K3.out _).mono ?_
            rintro e w' ⟨rfl, rfl⟩
            go_wp2_with fail
            refine (K6.out _).mono ?_
            rintro e w' ⟨rfl, rfl⟩
            go_wp2_with fail
            refine (works_any _ HU.out).mono ?_
            rintro e w2 ⟨rfl, hb⟩
            go_wp2_with fail
            go_ret
            exact ⟨rfl, hb⟩
          · have b5 : (sp = 1) = True := by simp [hsp]
            subst hs
            clear hsp hc1
            go_enter Tryd.func7, Tryd.ntmps7
            go_wp2_with fail
            refine (M1.out _ HM.out).mono ?_
            rintro e w' ⟨rfl, rfl⟩
            go_wp2_with fail
            refine (M2.out _ HM.out).mono ?_
            rintro e w' ⟨rfl, rfl⟩
            go_wp2_with fail
            refine (M3.out _ HM.out).mono ?_
            rintro e w' ⟨rfl, rfl⟩
            go_wp2_with fail
            refine (M4.out _ HM.out).mono ?_
            rintro e w' ⟨rfl, rfl⟩
            go_wp2_with fail
            refine (K1.out _).mono ?_
            rintro e w' ⟨rfl, rfl⟩
            go_wp2_with fail
            refine (K1.out _).mono ?_
            rintro e w' ⟨rfl, rfl⟩
            go_wp2_with fail
            refine (K3.out _).mono ?_
            rintro e w' ⟨rfl, rfl⟩
            go_wp2_with fail
            refine (K6.out _).mono ?_
            rintro e w' ⟨rfl, rfl⟩
            go_wp2_with fail
            refine (K4.out _).mono ?_
            rintro e w' ⟨rfl, rfl⟩
            go_wp2_with fail
            refine (K1.out _).mono ?_
            rintro e w' ⟨rfl, rfl⟩
            go_wp2_with fail
            refine (works_any _ HU.out).mono ?_
            rintro e w2 ⟨rfl, hb⟩
            go_wp2_with fail
            go_ret
            exact ⟨rfl, hb⟩
end Go.Proofs.YtjpdhfolfmamcaaDoor
