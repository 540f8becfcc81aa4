/-
  EmbedOnce: each place that is not removed is in one sequence, once.
-/
import Derived.Test.YtjndolnjhbgflaaHO1
import Derived.Test.YtjndolnjhbgflaaHV
import Derived.Test.YtjndolnjhbgflaaFOnce
namespace Go.Proofs.Ytjndolnjhbgflaa
open Go Go.RowKit
set_option linter.unusedVariables false
set_option linter.unusedSectionVars false
set_option linter.unusedSimpArgs false

section
variable {sc : Nat → Option Nat} (hs : ∀ k j, sc k = some j → k < j)
include hs
theorem walk_step {B : Nat} : ∀ k, k < B → ∀ j, j + 1 < (walk sc B k).length → sc ((walk sc B k).getD j 0) = some ((walk sc B k).getD (j + 1) 0) := by
  refine back (sc := sc) hs fun k hk ih j hj => ?_
  cases h : sc k with
  | none => rw [walk_none hs hk (fun j e => by rw [h] at e; cases e)] at hj; simp at hj
  | some i =>
    by_cases hi : i < B
    · have hki := hs _ _ h
      rw [walk_some hs hi h] at hj ⊢
      cases j with
      | zero => rw [List.getD_cons_zero, List.getD_cons_succ, h, walk_eq hs hi]; rfl
      | succ j =>
        rw [List.getD_cons_succ, List.getD_cons_succ]
        exact ih i hki hi j (by simpa using hj)
    · rw [walk_none hs hk (fun j' e => by rw [h] at e; injection e; omega)] at hj; simp at hj
theorem walk_zero {B k : Nat} (h : k < B) : (walk sc B k).getD 0 0 = k := by rw [walk_eq hs h]; rfl
theorem walk_all {B : Nat} {p : Nat → Prop} (hp : ∀ k j, sc k = some j → j < B → p k → p j) : ∀ k, k < B → p k → ∀ i ∈ walk sc B k, p i := by
  refine back (sc := sc) hs fun k hk ih h0 i hi => ?_
  cases h : sc k with
  | none =>
    rw [walk_none hs hk (fun j e => by rw [h] at e; cases e)] at hi
    rw [List.mem_singleton.1 hi]; exact h0
  | some j =>
    by_cases hj : j < B
    · rw [walk_some hs hj h] at hi
      rcases List.mem_cons.1 hi with e | hi
      · rw [e]; exact h0
      · exact ih j (hs _ _ h) hj (hp _ _ h hj h0) i hi
    · rw [walk_none hs hk (fun j' e => by rw [h] at e; injection e; omega)] at hi
      rw [List.mem_singleton.1 hi]; exact h0
end
theorem hd_up (sc : Nat → Option Nat) (B : Nat) : (hd sc B).Pairwise (· < ·) := (List.pairwise_lt_range).filter _

theorem onc_L3 {N : Nat} {l mt : List Int} {a c : Nat} (hc : c ≤ l.length) (ha : a < mt.length) (hl : l.length ≤ 400000000) (x148 : Int) (h : ∀ p, a < p → p < c → isRem (l.getD p 0) = false → mt.getD a 0 = (c : Int)) : ∀ (k t : Nat), c - t < k → a < t → fOnce_L3 N l mt (a : Int) x148 (c : Int) k (t : Int) = some (Ctl.go ())
  | 0, _, hk, _ => absurd hk (Nat.not_lt_zero _)
  | k + 1, t, hk, hat => by
    unfold fOnce_L3
    by_cases h0 : x148 > 0
    · rw [if_pos h0]
      by_cases ht : t < c
      · rw [if_pos (by omega), ixe (by omega), Option.bind_some, rRem_eq, Option.bind_some, wne t (by omega)]
        cases hr : isRem (l.getD t 0) with
        | true => exact onc_L3 hc ha hl x148 h k (t + 1) (by omega) (by omega)
        | false =>
          simp only
          rw [ixe ha, Option.bind_some, if_neg (by rw [h t hat ht hr]; simp)]
          exact onc_L3 hc ha hl x148 h k (t + 1) (by omega) (by omega)
      · rw [if_neg (by omega)]
    · rw [if_neg h0]

section
variable {N : Nat} {l L : List Int} {b : Int} (hlv : ∀ k j, scI l L b k = some j → lvN l L b k = lvN l L b j) (hn : L.length = l.length) (hl : l.length ≤ 2000) (hN : 3000 < N)
include hlv hn hl hN

/-- between two places of a way stands what is removed, or the PDI is behind -/
theorem way_gap {k j : Nat} (h : scI l L b k = some j) : ∀ p, plP l k < p → p < plP l j → isRem (l.getD p 0) = false → (matchS l).getD (plP l k) 0 = ((plP l j : Nat) : Int) := by
  intro p h1 h2 h3
  have hj := (sc_lt k j h).2
  obtain ⟨hk, hc⟩ := sc_two h
  have hpl : p < l.length := by have := (P_at hj).1; omega
  rcases hc with ⟨e, _⟩ | ⟨v, hv, e, _⟩
  · exfalso
    obtain ⟨a1, a2⟩ := P_cnt hpl h3
    have b1 : k < cnt l p := by
      rcases Nat.lt_or_ge k (cnt l p) with x | x
      · exact x
      · exfalso
        rcases Nat.lt_or_ge (cnt l p) k with y | y
        · have := P_lt hk y; omega
        · have : cnt l p = k := by omega
          rw [this] at a2; omega
    have b2 : cnt l p < j := by
      rcases Nat.lt_or_ge (cnt l p) j with x | x
      · exact x
      · exfalso
        rcases Nat.lt_or_ge j (cnt l p) with y | y
        · have := P_lt a1 y; omega
        · have : cnt l p = j := by omega
          rw [this] at a2; omega
    omega
  · obtain ⟨c1, c2, c3⟩ := cl_cnt hk hv
    rw [match_init (P_at hk).1 (cl_at hv).1, hv, e, c3]

theorem onc_L2 (i h : Nat) (hi : (hd (scI l L b) (plc l).length)[i]? = some h) : ∀ (k j : Nat) (s : List Bool) (x147 : Int), (walk (scI l L b) (plc l).length h).length - j < k → j ≤ (walk (scI l L b) (plc l).length h).length → s.length = l.length →
    (∀ j', j ≤ j' → j' < (walk (scI l L b) (plc l).length h).length → s[plP l ((walk (scI l L b) (plc l).length h).getD j' 0)]? = some false) →
    (x147 = if j = 0 then -1 else ((plP l ((walk (scI l L b) (plc l).length h).getD (j - 1) 0) : Nat) : Int)) →
    ∃ s', fOnce_L2 N l L (seqsS l L b) (matchS l) (i : Int) k s x147 (j : Int) = some (Ctl.go s') ∧ s'.length = l.length ∧
      (∀ j', j ≤ j' → j' < (walk (scI l L b) (plc l).length h).length → s'[plP l ((walk (scI l L b) (plc l).length h).getD j' 0)]? = some true) ∧
      (∀ p, (∀ j', j ≤ j' → j' < (walk (scI l L b) (plc l).length h).length → p ≠ plP l ((walk (scI l L b) (plc l).length h).getD j' 0)) → s'[p]? = s[p]?)
  | 0, _, _, _, hk, _, _, _, _ => absurd hk (Nat.not_lt_zero _)
  | k + 1, j, s, x147, hk, hj, hsl, hfree, hx => by
    have hhB := (hd_mem.1 (List.mem_of_getElem? hi)).1
    have hwl := walk_le (sc := scI l L b) sc_s h hhB
    have hpl := plc_le l
    have hS : (seqsS l L b)[i]? = some (mkS l L b (plc l).length h) := by unfold seqsS; rw [List.getElem?_map, hi]; rfl
    have hstep := walk_step (sc := scI l L b) sc_s h hhB
    have hin := walk_in (sc := scI l L b) sc_s h hhB
    have hlev := walk_all (sc := scI l L b) sc_s (B := (plc l).length) (p := fun k => lvN l L b k = lvN l L b h) (fun k j hkj _ e => by rw [← hlv k j hkj]; exact e) h hhB rfl
    unfold fOnce_L2
    rw [ixge, hS, Option.bind_some]
    unfold mkS
    generalize hw : walk (scI l L b) (plc l).length h = w at hk hj hfree hx hwl hstep hin hlev hS ⊢
    simp only [List.length_map]
    by_cases hjw : j < w.length
    · have hm : w.getD j 0 ∈ w := by rw [List.getD_eq_getElem?_getD, List.getElem?_eq_getElem hjw]; exact List.getElem_mem hjw
      have hkB := (hin _ hm).2
      obtain ⟨p1, p2, p3⟩ := P_at hkB
      have hg : ix (w.map (fun k => ((plP l k : Nat) : Int))) (j : Int) = some ((plP l (w.getD j 0) : Nat) : Int) := by
        rw [ixe (by rw [List.length_map]; exact hjw), List.getD_eq_getElem?_getD, List.getElem?_map, List.getD_eq_getElem?_getD, List.getElem?_eq_getElem hjw]; rfl
      have hprev : ∀ j0, j = j0 + 1 → scI l L b (w.getD j0 0) = some (w.getD j 0) := by
        intro j0 e
        subst e
        exact hstep j0 hjw
      have hnx : ¬ ((plP l (w.getD j 0) : Nat) : Int) ≤ x147 := by
        rw [hx]
        cases j with
        | zero => rw [if_pos rfl]; omega
        | succ j0 =>
          rw [if_neg (by omega), show j0 + 1 - 1 = j0 by omega]
          have := P_lt hkB (sc_s _ _ (hprev j0 rfl))
          omega
      have hlevj : L.getD (plP l (w.getD j 0)) 0 = lvN l L b h := by
        have := hlev _ hm
        rw [← this]
        unfold lvN
        rw [if_pos hkB]
      have hseen : ixg s ((plP l (w.getD j 0) : Nat) : Int) = some false := by rw [ixge, hfree j (Nat.le_refl _) hjw]
      have hrem : ((ix l ((plP l (w.getD j 0) : Nat) : Int)).bind fun x269 => (rRem N x269).bind fun x => some x) = some false := by
        rw [ixe p1, Option.bind_some, rRem_eq, Option.bind_some, p2]
      have hset : setg s ((plP l (w.getD j 0) : Nat) : Int) true = some (s.set (plP l (w.getD j 0)) true) := setge _ _ _ (by omega)
      have hL3 : fOnce_L3 N l (matchS l) x147 (j : Int) ((plP l (w.getD j 0) : Nat) : Int) N (IntKind.i64.wrap (x147 + 1)) = some (Ctl.go ()) := by
        cases j with
        | zero =>
          obtain ⟨M, rfl⟩ : ∃ M, N = M + 1 := ⟨N - 1, by omega⟩
          unfold fOnce_L3
          rw [if_neg (by decide)]
        | succ j0 =>
          have hsc := hprev j0 rfl
          have hk0 := (sc_two hsc).1
          obtain ⟨q1, _, _⟩ := P_at hk0
          rw [if_neg (by omega), show j0 + 1 - 1 = j0 by omega] at hx
          rw [hx, wne _ (by omega)]
          exact onc_L3 (by omega) (by rw [matchS_len]; exact q1) (by omega) _ (way_gap hlv hn hl hN hsc) N _ (by omega) (by omega)
      have wup : ∀ c a, a < c → c < w.length → w.getD a 0 < w.getD c 0 := by
        intro c
        induction c with
        | zero => intro a h; exact absurd h (Nat.not_lt_zero _)
        | succ c ih =>
          intro a h1 h2
          have h3 := sc_s _ _ (hstep c h2)
          by_cases h4 : a = c
          · rw [h4]; exact h3
          · have := ih a (by omega) (by omega); omega
      have hne : ∀ j', j + 1 ≤ j' → j' < w.length → plP l (w.getD j 0) ≠ plP l (w.getD j' 0) := by
        intro j' h1 h2 e
        have h3 := wup j' j (by omega) h2
        have hm' : w.getD j' 0 ∈ w := by rw [List.getD_eq_getElem?_getD, List.getElem?_eq_getElem h2]; exact List.getElem_mem h2
        have := P_inj hkB (hin _ hm').2 e
        omega
      obtain ⟨s', r1, r2, r3, r4⟩ := onc_L2 i h hi k (j + 1) (s.set (plP l (w.getD j 0)) true) ((plP l (w.getD j 0) : Nat) : Int) (by rw [hw]; omega) (by rw [hw]; omega) (by rw [List.length_set]; exact hsl)
        (fun j' h1 h2 => by
          rw [hw] at h2 ⊢
          rw [List.getElem?_set_ne (hne j' h1 h2)]
          exact hfree j' (by omega) h2)
        (by rw [hw, if_neg (by omega), show j + 1 - 1 = j by omega])
      rw [hw] at r3 r4
      refine ⟨s', ?_, r2, ?_, ?_⟩
      · rw [if_pos (by omega)]
        simp only [Option.bind_some]
        rw [hg]
        simp only [Option.bind_some]
        rw [if_neg hnx, if_neg (by omega)]
        simp only [Option.bind_some, hseen, hrem]
        rw [ixe (by omega)]
        simp only [Option.bind_some, hlevj, ne_eq, not_true_eq_false, if_false, hset, hL3]
        rw [wne j (by omega)]
        exact r1
      · intro j' h1 h2
        by_cases e : j' = j
        · rw [e, r4 _ (fun j'' h3 h4 => hne j'' h3 h4), List.getElem?_set_self (by omega)]
        · exact r3 j' (by omega) h2
      · intro p hp
        rw [r4 p (fun j' h1 h2 => hp j' (by omega) h2), List.getElem?_set_ne]
        exact fun e => hp j (Nat.le_refl _) hjw e.symm
    · rw [if_neg (by omega)]
      exact ⟨s, rfl, hsl, fun j' h1 h2 => by omega, fun p _ => rfl⟩

/-- what is seen behind so many sequences -/
structure InvO (l L : List Int) (b : Int) (i : Nat) (s : List Bool) : Prop where
  len : s.length = l.length
  seen : ∀ i' h, i' < i → (hd (scI l L b) (plc l).length)[i']? = some h → ∀ k ∈ walk (scI l L b) (plc l).length h, s[plP l k]? = some true
  free : ∀ p, p < l.length → (∀ i' h, i' < i → (hd (scI l L b) (plc l).length)[i']? = some h → ∀ k ∈ walk (scI l L b) (plc l).length h, p ≠ plP l k) → s[p]? = some false

theorem onc_L1 : ∀ (k i : Nat) (s : List Bool), (hd (scI l L b) (plc l).length).length - i < k → i ≤ (hd (scI l L b) (plc l).length).length → InvO l L b i s →
    ∃ s', fOnce_L1 N l L (seqsS l L b) (matchS l) k s (i : Int) = some (Ctl.go s') ∧ InvO l L b (hd (scI l L b) (plc l).length).length s'
  | 0, _, _, hk, _, _ => absurd hk (Nat.not_lt_zero _)
  | k + 1, i, s, hk, hi, hI => by
    have hpl := plc_le l
    have hhl := hd_le (scI l L b) (plc l).length
    have hSl : (seqsS l L b).length = (hd (scI l L b) (plc l).length).length := by unfold seqsS; rw [List.length_map]
    unfold fOnce_L1
    by_cases hlt : i < (hd (scI l L b) (plc l).length).length
    · have hgi := List.getElem?_eq_getElem hlt
      generalize hh : (hd (scI l L b) (plc l).length)[i] = h at hgi
      have hmem := List.mem_of_getElem? hgi
      have hhB := (hd_mem.1 hmem).1
      have hin := walk_in (sc := scI l L b) sc_s h hhB
      have hS : ∀ (i h : Nat), (hd (scI l L b) (plc l).length)[i]? = some h → (seqsS l L b)[i]? = some (mkS l L b (plc l).length h) := by intro i h hi; unfold seqsS; rw [List.getElem?_map, hi]; rfl
      have hat : ∀ j', j' < (walk (scI l L b) (plc l).length h).length → (walk (scI l L b) (plc l).length h).getD j' 0 ∈ walk (scI l L b) (plc l).length h := by
        intro j' h2
        rw [List.getD_eq_getElem?_getD, List.getElem?_eq_getElem h2]; exact List.getElem_mem h2
      have hfree : ∀ j', 0 ≤ j' → j' < (walk (scI l L b) (plc l).length h).length → s[plP l ((walk (scI l L b) (plc l).length h).getD j' 0)]? = some false := by
        intro j' _ h2
        have hm := hat j' h2
        have hkB := (hin _ hm).2
        refine hI.free _ (P_at hkB).1 fun i' h' h3 h4 k' hk' e => ?_
        have hmem' := List.mem_of_getElem? h4
        have hhB' := (hd_mem.1 hmem').1
        have hkB' := (walk_in (sc := scI l L b) sc_s h' hhB' _ hk').2
        have e2 := P_inj hkB hkB' e
        have e3 := disj (sc := scI l L b) sc_s sc_inj (hd_mem.1 hmem).2 (hd_mem.1 hmem').2 hhB hhB' _ hm (by rw [e2]; exact hk')
        rw [← e3] at h4
        obtain ⟨l1, g1⟩ := List.getElem?_eq_some_iff.1 hgi
        obtain ⟨l2, g2⟩ := List.getElem?_eq_some_iff.1 h4
        have := (List.getElem_inj (hd_nodup (scI l L b) (plc l).length)).1 (g1.trans g2.symm)
        omega
      have hwl := walk_le (sc := scI l L b) sc_s h hhB
      obtain ⟨s', r1, r2, r3, r4⟩ := onc_L2 hlv hn hl hN i h hgi N 0 s (-1) (by omega) (Nat.zero_le _) hI.len hfree (by rw [if_pos rfl])
      have r1' : fOnce_L2 N l L (seqsS l L b) (matchS l) (i : Int) N s (-1) 0 = some (Ctl.go s') := r1
      have hI' : InvO l L b (i + 1) s' := by
        refine ⟨r2, fun i' h' h1 h2 k' hk' => ?_, fun p hp hfr => ?_⟩
        · by_cases e : i' = i
          · subst e
            rw [hgi] at h2
            injection h2 with h2
            subst h2
            obtain ⟨j', l1, g1⟩ := List.getElem_of_mem hk'
            have := r3 j' (Nat.zero_le _) l1
            rwa [List.getD_eq_getElem?_getD, List.getElem?_eq_getElem l1, g1] at this
          · rw [r4]
            · exact hI.seen i' h' (by omega) h2 k' hk'
            · intro j' _ h3 e2
              have hm := hat j' h3
              have hmem' := List.mem_of_getElem? h2
              have hhB' := (hd_mem.1 hmem').1
              have hkB' := (walk_in (sc := scI l L b) sc_s h' hhB' _ hk').2
              have e3 := P_inj hkB' (hin _ hm).2 e2
              have e4 := disj (sc := scI l L b) sc_s sc_inj (hd_mem.1 hmem).2 (hd_mem.1 hmem').2 hhB hhB' _ hm (by rw [← e3]; exact hk')
              rw [← e4] at h2
              obtain ⟨l1, g1⟩ := List.getElem?_eq_some_iff.1 hgi
              obtain ⟨l2, g2⟩ := List.getElem?_eq_some_iff.1 h2
              have := (List.getElem_inj (hd_nodup (scI l L b) (plc l).length)).1 (g1.trans g2.symm)
              omega
        · rw [r4]
          · exact hI.free p hp fun i' h' h1 h2 => hfr i' h' (by omega) h2
          · intro j' _ h3
            exact hfr i h (by omega) hgi _ (hat j' h3)
      obtain ⟨s'', t1, t2⟩ := onc_L1 k (i + 1) s' (by omega) (by omega) hI'
      refine ⟨s'', ?_, t2⟩
      have hrow : ∀ (i h : Nat), (hd (scI l L b) (plc l).length)[i]? = some h → ixg (seqsS l L b) (i : Int) = some (mkS l L b (plc l).length h) := by intro i h hi; rw [ixge]; exact hS i h hi
      have hlen0 : ¬ ((((mkS l L b (plc l).length h).1.length : Nat)) : Int) = 0 := by
        show ¬ ((((walk (scI l L b) (plc l).length h).map (fun k => ((plP l k : Nat) : Int))).length : Nat) : Int) = 0
        rw [List.length_map, walk_eq sc_s hhB, List.length_cons]
        omega
      have hfst : ∀ (h : Nat), h < (plc l).length → ix (mkS l L b (plc l).length h).1 0 = some ((plP l h : Nat) : Int) := by
        intro h hh
        show ix ((walk (scI l L b) (plc l).length h).map (fun k => ((plP l k : Nat) : Int))) 0 = _
        rw [walk_eq sc_s hh, List.map_cons]
        exact ixe (i := 0) (by rw [List.length_cons]; omega)
      rw [if_pos (by omega), r1']
      simp only [Option.bind_some]
      rw [hrow i h hgi]
      simp only [Option.bind_some]
      rw [if_neg hlen0]
      have hcont : fOnce_L1 N l L (seqsS l L b) (matchS l) k s' (IntKind.i64.wrap ((i : Int) + 1)) = some (Ctl.go s'') := by rw [wne i (by omega)]; exact t1
      by_cases hi0 : (i : Int) > 0
      · obtain ⟨i0, rfl⟩ : ∃ i0, i = i0 + 1 := ⟨i - 1, by omega⟩
        have hlt0 : i0 < (hd (scI l L b) (plc l).length).length := by omega
        have hg0 := List.getElem?_eq_getElem hlt0
        have hup : (hd (scI l L b) (plc l).length)[i0] < h := by
          rw [← hh]
          exact List.pairwise_iff_getElem.1 (hd_up (scI l L b) (plc l).length) i0 (i0 + 1) hlt0 hlt (by omega)
        have hB0 : (hd (scI l L b) (plc l).length)[i0] < (plc l).length := (hd_mem.1 (List.getElem_mem hlt0)).1
        have hplt := P_lt hhB hup
        rw [if_pos hi0, hfst h hhB]
        simp only [Option.bind_some]
        rw [wme (i0 + 1) (by omega) (by omega), show i0 + 1 - 1 = i0 by omega, hrow i0 _ hg0]
        simp only [Option.bind_some]
        rw [hfst _ hB0]
        simp only [Option.bind_some]
        rw [if_neg (by omega)]
        exact hcont
      · rw [if_neg hi0]
        exact hcont
    · rw [if_neg (by rw [hSl]; omega)]
      obtain rfl : i = (hd (scI l L b) (plc l).length).length := by omega
      exact ⟨s, rfl, hI⟩

theorem onc_L4 (s : List Bool) (hsl : s.length = l.length) (hs : ∀ p, p < l.length → s[p]? = some (!isRem (l.getD p 0))) : ∀ (k i : Nat), l.length - i < k → i ≤ l.length → fOnce_L4 N l s k (i : Int) = some (Ctl.go ())
  | 0, _, hk, _ => absurd hk (Nat.not_lt_zero _)
  | k + 1, i, hk, hi => by
    unfold fOnce_L4
    by_cases h : i < l.length
    · rw [if_pos (by omega), ixge, hs i h, Option.bind_some, ixe h, Option.bind_some, rRem_eq, Option.bind_some, wne i (by omega)]
      cases isRem (l.getD i 0) <;> exact onc_L4 s hsl hs k (i + 1) (by omega) (by omega)
    · rw [if_neg (by omega)]
end

theorem fOnce_at (p0 : List Int) (p1 : Int) (h1 : 0 ≤ p1 ∧ p1 ≤ 255) (N : Nat) (hN : 3000 < N) : fOnce N p0 p1 = some true := by
  unfold fOnce
  by_cases h0 : p0.length > 2000
  · rw [if_pos (by omega), kIso_eq N (by omega)]; rfl
  rw [if_neg (by omega), rLevels_eq N p0 p1 h1 (by omega) (by omega), Option.bind_some]
  unfold levelsS
  rw [if_neg (by omega)]
  by_cases hok : p0.all okC = false
  · rw [if_pos hok]
    simp only
    rw [if_pos (by decide), kIso_eq N (by omega)]; rfl
  rw [if_neg hok]
  by_cases hb2 : 2 < p1
  · rw [if_pos hb2]
    simp only
    rw [if_pos (by decide), kIso_eq N (by omega)]; rfl
  rw [if_neg hb2]
  have hbs : 0 ≤ baseS p0 p1 ∧ baseS p0 p1 ≤ 1 := by
    unfold baseS
    split
    · split <;> omega
    · omega
  have hlv := sc_lev p0 (baseS p0 p1) (baseS p0 p1) (ms0 (baseS p0 p1)) (baseS p0 p1)
  have hnn := lev_nn hbs p0
  have hn : ((runM (baseS p0 p1) (ms0 (baseS p0 p1)) (baseS p0 p1) p0).map Prod.fst).length = p0.length := by rw [List.length_map, runM_len]
  generalize (runM (baseS p0 p1) (ms0 (baseS p0 p1)) (baseS p0 p1) p0).map Prod.fst = L at hlv hnn hn ⊢
  generalize (runM (baseS p0 p1) (ms0 (baseS p0 p1)) (baseS p0 p1) p0).map Prod.snd = C
  generalize baseS p0 p1 = b at hbs hlv ⊢
  simp only
  rw [if_neg (by decide), pSeqs_eq p0 L b (by omega) (by omega) hnn hbs.1, Option.bind_some]
  have hR : seqsR p0 L b = (seqsS p0 L b, 0) := by unfold seqsR; rw [if_neg (by omega), if_neg (by omega)]
  rw [hR]
  simp only
  rw [if_neg (by decide), rMatch_eq N p0 (by omega) (by omega), Option.bind_some, mkge _ _ (by omega), Option.bind_some]
  obtain ⟨s, e1, hI⟩ := onc_L1 (N := N) hlv hn (by omega) hN N 0 (List.replicate p0.length false) (by have := hd_le (scI p0 L b) (plc p0).length; have := plc_le p0; omega) (Nat.zero_le _)
    ⟨List.length_replicate, fun i' h h1 => absurd h1 (Nat.not_lt_zero _), fun p hp _ => by rw [List.getElem?_replicate, if_pos hp]⟩
  have e1' : fOnce_L1 N p0 L (seqsS p0 L b) (matchS p0) N (List.replicate p0.length false) 0 = some (Ctl.go s) := e1
  rw [e1', Option.bind_some]
  have hall : ∀ p, p < p0.length → s[p]? = some (!isRem (p0.getD p 0)) := by
    intro p hp
    cases hr : isRem (p0.getD p 0) with
    | true =>
      refine hI.free p hp fun i' h h1 h2 k hk e => ?_
      have hhB := (hd_mem.1 (List.mem_of_getElem? h2)).1
      have := (P_at (walk_in (sc := scI p0 L b) sc_s h hhB k hk).2).2.1
      rw [← e, hr] at this
      cases this
    | false =>
      obtain ⟨a1, a2⟩ := P_cnt hp hr
      obtain ⟨h, hh, hw⟩ := cover (sc := scI p0 L b) sc_s _ a1
      obtain ⟨i', l1, g1⟩ := List.getElem_of_mem hh
      have := hI.seen i' h l1 (by rw [List.getElem?_eq_getElem l1, g1]) _ hw
      rw [a2] at this
      exact this
  have hL4 : fOnce_L4 N p0 s N 0 = some (Ctl.go ()) := onc_L4 (N := N) hlv hn (by omega) hN s hI.len hall N 0 (by omega) (Nat.zero_le _)
  simp only
  rw [hL4, Option.bind_some]
  simp only
  rw [kIso_eq N (by omega)]
  rfl
theorem fOnce_true (p0 : List Int) (p1 : Int) (h1 : 0 ≤ p1 ∧ p1 ≤ 255) : ∃ N, fOnce N p0 p1 = some true := ⟨4000, fOnce_at p0 p1 h1 4000 (by omega)⟩
end Go.Proofs.Ytjndolnjhbgflaa
