/-
  Joined.
-/
import Derived.Test.YtdbimchiecdkoaaGreatRB
import Derived.Test.YtdbimchiecdkoaaGreatSC
namespace Go.Proofs.YtdbimchiecdkoaaGreat
open Go Go.RowKit Sg
set_option linter.unusedVariables false
set_option linter.unusedSimpArgs false
section
variable {N : Nat}
theorem ixg_nat {α : Type} {l : List α} {i : Nat} {v : α} (h : l[i]? = some v) : ixg l (i : Int) = some v := by
  unfold ixg
  rw [if_pos (by omega)]
  simpa using h
theorem rIn_L1_eq (c : Int) (S : List Int) (hS : S.length ≤ 1000) : ∀ (f i : Nat), S.length - i < f → rIn_L1 N c S f (i : Int) = some (if (S.drop i).contains c then Ctl.ret true else Ctl.go ())
  | 0, i, h => by omega
  | f + 1, i, hf => by
    unfold rIn_L1
    by_cases h : i < S.length
    · have ih := rIn_L1_eq c S hS f (i + 1) (by omega)
      rw [if_pos (by omega), ix_of (v := S[i]) (by omega) (by omega) (by simp [h]), Option.bind_some, List.drop_eq_getElem_cons h, List.contains_cons]
      by_cases e : S[i] = c
      · rw [if_pos e, e]; simp
      · rw [if_neg e, w64s (by omega) (by omega), show (i : Int) + 1 = ((i + 1 : Nat) : Int) by omega, ih, beq_false_of_ne (Ne.symm e), Bool.false_or]
    · rw [if_neg (by omega), List.drop_eq_nil_of_le (by omega)]; rfl
theorem rIn_eq {c : Int} {S : List Int} (hS : S.length ≤ 100) (hN : 200 ≤ N) : rIn N c S = some (S.contains c) := by
  unfold rIn
  have := rIn_L1_eq (N := N) c S (by omega) N 0 (by omega)
  rw [show ((0 : Nat) : Int) = 0 from rfl, List.drop_zero] at this
  rw [this]
  cases S.contains c <;> rfl
theorem rLet_eq (c : Int) : rLet N c = some (letter c) := by
  unfold rLet letter
  by_cases h : c = 0
  · rw [if_pos h, h]; rfl
  · rw [if_neg h, beq_false_of_ne h]; rfl
theorem rHan_eq (c : Int) (hN : 200 ≤ N) : rHan N c = some (hangul c) := by
  unfold rHan
  rw [rIn_eq (by simp) hN, Option.bind_some]
  congr 1
  rw [Bool.eq_iff_iff]; simp [hangul, or_assoc]
theorem rOpn_eq (c r n : Int) (z w : Bool) : rOpn N c r n z w = some (opn c r) := by
  unfold rOpn opn
  by_cases h : c = 22
  · rw [if_pos h, h]
    by_cases h1 : r = 171
    · subst h1; rfl
    by_cases h2 : r = 8216
    · subst h2; rfl
    by_cases h3 : r = 8219
    · subst h3; rfl
    by_cases h4 : r = 8220
    · subst h4; rfl
    by_cases h5 : r = 8223
    · subst h5; rfl
    simp only [h1, h2, h3, h4, h5, if_false, Option.bind_some, beq_false_of_ne h1, beq_false_of_ne h2, beq_false_of_ne h3, beq_false_of_ne h4, beq_false_of_ne h5, Bool.false_or, beq_self_eq_true, Bool.true_and]
    rfl
  · rw [if_neg h, beq_false_of_ne h]; rfl
theorem rCls_eq (c r n : Int) (z w : Bool) : rCls N c r n z w = some (cls0 c r) := by
  unfold rCls cls0
  by_cases h : c = 22
  · rw [if_pos h, h]
    by_cases h1 : r = 187
    · subst h1; rfl
    by_cases h2 : r = 8217
    · subst h2; rfl
    by_cases h3 : r = 8221
    · subst h3; rfl
    simp only [h1, h2, h3, if_false, Option.bind_some, beq_false_of_ne h1, beq_false_of_ne h2, beq_false_of_ne h3, Bool.false_or, beq_self_eq_true, Bool.true_and]
    rfl
  · rw [if_neg h, beq_false_of_ne h]; rfl
variable {L R : List U}
theorem at_left (t : Nat) (h : t < L.length) : (L.reverse ++ R)[L.length - 1 - t]? = L[t]? := by
  rw [List.getElem?_append_left (by simp; omega), List.getElem?_reverse (by omega)]
  congr 1; omega
theorem at_right (t : Nat) : (L.reverse ++ R)[L.length + t]? = R[t]? := by
  rw [List.getElem?_append_right (by simp)]
  congr 1; simp
theorem at0_drop (X : List U) (t : Nat) : at0 (X.drop t) = match X[t]? with | some u => u.1 | none => 99 := by
  rw [← List.head?_drop]
  cases X.drop t <;> rfl
theorem rAt_left (t : Nat) (x : Int) (hx : x = (L.length : Int) - 1 - t) : rAt N (L.reverse ++ R) x = some (at0 (L.drop t)) := by
  unfold rAt
  by_cases h : t < L.length
  · obtain ⟨v, hv⟩ : ∃ v, L[t]? = some v := ⟨L[t], List.getElem?_eq_getElem h⟩
    have h2 := at_left (R := R) t h
    rw [if_neg (by omega), if_neg (by simp; omega), show x = ((L.length - 1 - t : Nat) : Int) by omega, ixg_nat (h2.trans hv), at0_drop, hv]; rfl
  · rw [if_pos (by omega), List.drop_eq_nil_of_le (by omega)]; rfl
theorem rAt_right (t : Nat) (x : Int) (hx : x = (L.length : Int) + t) : rAt N (L.reverse ++ R) x = some (at0 (R.drop t)) := by
  unfold rAt
  by_cases h : t < R.length
  · obtain ⟨v, hv⟩ : ∃ v, R[t]? = some v := ⟨R[t], List.getElem?_eq_getElem h⟩
    have h2 := at_right (L := L) (R := R) t
    rw [if_neg (by omega), if_neg (by simp; omega), show x = ((L.length + t : Nat) : Int) by omega, ixg_nat (h2.trans hv), at0_drop, hv]; rfl
  · rw [if_neg (by omega), if_pos (by simp; omega), List.drop_eq_nil_of_le (by omega)]; rfl
theorem spk_drop : ∀ L : List U, spk L = L.drop (L.length - (spk L).length) ∧ (spk L).length ≤ L.length
  | [] => ⟨rfl, Nat.le_refl _⟩
  | u :: L => by
    obtain ⟨h1, h2⟩ := spk_drop L
    unfold spk
    split
    · refine ⟨?_, by simp; omega⟩
      rw [List.length_cons, show L.length + 1 - (spk L).length = (L.length - (spk L).length) + 1 by omega, List.drop_succ_cons]
      exact h1
    · exact ⟨by simp, Nat.le_refl _⟩
theorem rK_eq (hl : L.length ≤ 100000) : ∀ (f t : Nat), L.length - t < f → t ≤ L.length → rBetw_L1 N (L.reverse ++ R) f ((L.length : Int) - 1 - t) = some (((spk (L.drop t)).length : Int) - 1)
  | 0, t, h, _ => by omega
  | f + 1, t, hf, ht => by
    unfold rBetw_L1
    by_cases h : t < L.length
    · have h2 := at_left (R := R) t h
      have hv : L[t]? = some L[t] := List.getElem?_eq_getElem h
      have ih := rK_eq hl f (t + 1) (by omega) h
      rw [if_pos (by omega), show (L.length : Int) - 1 - t = ((L.length - 1 - t : Nat) : Int) by omega, ixg_nat (h2.trans hv), Option.bind_some, List.drop_eq_getElem_cons h]
      simp only [spk]
      by_cases h5 : L[t].1 = 5
      · rw [if_pos h5, w64s (by omega) (by omega), show ((L.length - 1 - t : Nat) : Int) - 1 = (L.length : Int) - 1 - ((t + 1 : Nat) : Int) by omega, ih, if_pos (by simpa using h5)]
      · rw [if_neg h5, if_neg (by simpa using h5)]
        simp
        omega
    · rw [if_neg (by omega), List.drop_eq_nil_of_le (by omega)]
      simp [spk]
      omega
theorem rNum_L1_eq (hl : L.length ≤ 100000) : ∀ (f t : Nat), L.length - t < f → t ≤ L.length → ∃ s : Nat, t ≤ s ∧ s ≤ L.length ∧ rNum_L1 N (L.reverse ++ R) f ((L.length : Int) - 1 - t) = some ((L.length : Int) - 1 - s) ∧ num (L.drop t) = (match L[s]? with | some u => u.1 == 27 | none => false)
  | 0, t, h, _ => by omega
  | f + 1, t, hf, ht => by
    unfold rNum_L1
    by_cases h : t < L.length
    · have h2 := at_left (R := R) t h
      have hv : L[t]? = some L[t] := List.getElem?_eq_getElem h
      obtain ⟨s, hs1, hs2, ih, hn⟩ := rNum_L1_eq hl f (t + 1) (by omega) h
      rw [if_pos (by omega), show (L.length : Int) - 1 - t = ((L.length - 1 - t : Nat) : Int) by omega, ixg_nat (h2.trans hv), Option.bind_some, Option.bind_some, w64s (by omega) (by omega), show ((L.length - 1 - t : Nat) : Int) - 1 = (L.length : Int) - 1 - ((t + 1 : Nat) : Int) by omega, ih, List.drop_eq_getElem_cons h]
      simp only [num]
      by_cases h4 : L[t].1 = 24
      · rw [if_pos h4]
        exact ⟨s, by omega, hs2, rfl, by rw [if_pos (by simp [h4])]; exact hn⟩
      · rw [if_neg h4]
        by_cases h3 : L[t].1 = 23
        · rw [if_pos h3]
          exact ⟨s, by omega, hs2, rfl, by rw [if_pos (by simp [h3])]; exact hn⟩
        · rw [if_neg h3]
          refine ⟨t, Nat.le_refl _, ht, by congr 1; omega, ?_⟩
          rw [if_neg (by simp [h3, h4]), hv]
    · rw [if_neg (by omega)]
      refine ⟨t, Nat.le_refl _, ht, rfl, ?_⟩
      rw [List.drop_eq_nil_of_le (by omega), List.getElem?_eq_none (by omega)]
      rfl
theorem rNum_eq (hl : L.length ≤ 100000) (hN : L.length < N) (t : Nat) (ht : t ≤ L.length) (x : Int) (hx : x = (L.length : Int) - 1 - t) : rNum N (L.reverse ++ R) x = some (num (L.drop t)) := by
  subst hx
  obtain ⟨s, h1, h2, h3, h4⟩ := rNum_L1_eq (N := N) (R := R) hl N t (by omega) ht
  unfold rNum
  rw [h3, Option.bind_some, h4]
  by_cases h : s < L.length
  · have hv : L[s]? = some L[s] := List.getElem?_eq_getElem h
    have ha := at_left (R := R) s h
    rw [if_pos (by omega), show (L.length : Int) - 1 - s = ((L.length - 1 - s : Nat) : Int) by omega, ixg_nat (ha.trans hv), hv]; rfl
  · rw [if_neg (by omega), List.getElem?_eq_none (by omega)]
theorem rOdd_L1_eq (hl : L.length ≤ 100000) : ∀ (f t : Nat) (n : Int), L.length - t < f → t ≤ L.length → 0 ≤ n → n ≤ t → ∃ m : Int, 0 ≤ m ∧ rOdd_L1 N (L.reverse ++ R) f ((L.length : Int) - 1 - t) n = some m ∧ decide (m % 2 = 1) = (oddR (L.drop t) ^^ decide (n % 2 = 1))
  | 0, t, n, h, _, _, _ => by omega
  | f + 1, t, n, hf, ht, hn, hn2 => by
    unfold rOdd_L1
    by_cases h : t < L.length
    · have h2 := at_left (R := R) t h
      have hv : L[t]? = some L[t] := List.getElem?_eq_getElem h
      obtain ⟨m, hm, ih, hnn⟩ := rOdd_L1_eq hl f (t + 1) (n + 1) (by omega) h (by omega) (by omega)
      rw [if_pos (by omega), show (L.length : Int) - 1 - t = ((L.length - 1 - t : Nat) : Int) by omega, ixg_nat (h2.trans hv), Option.bind_some, List.drop_eq_getElem_cons h]
      simp only [oddR]
      by_cases h4 : L[t].1 = 32
      · rw [if_pos h4, w64s (x := ((L.length - 1 - t : Nat) : Int) - 1) (by omega) (by omega), w64s (by omega) (by omega), show ((L.length - 1 - t : Nat) : Int) - 1 = (L.length : Int) - 1 - ((t + 1 : Nat) : Int) by omega]
        refine ⟨m, hm, ih, ?_⟩
        rw [hnn, if_pos (by simpa using h4)]
        have : decide ((n + 1) % 2 = 1) = !decide (n % 2 = 1) := by
          rw [Bool.eq_iff_iff]; simp; omega
        rw [this]
        cases oddR (L.drop (t + 1)) <;> cases decide (n % 2 = 1) <;> rfl
      · rw [if_neg h4, if_neg (by simpa using h4)]
        exact ⟨n, hn, rfl, by simp⟩
    · rw [if_neg (by omega), List.drop_eq_nil_of_le (by omega)]
      exact ⟨n, hn, rfl, by simp [oddR]⟩
theorem rOdd_eq (hl : L.length ≤ 100000) (hN : L.length < N) (x : Int) (hx : x = (L.length : Int) - 1) : rOdd N (L.reverse ++ R) x = some (oddR L) := by
  subst hx
  obtain ⟨m, hm, h1, h2⟩ := rOdd_L1_eq (N := N) (R := R) hl N 0 0 (by omega) (by omega) (by omega) (by omega)
  unfold rOdd
  rw [show (L.length : Int) - 1 = (L.length : Int) - 1 - ((0 : Nat) : Int) by omega, h1, Option.bind_some, Int.tmod_eq_emod_of_nonneg hm, h2]
  simp
theorem rNar_left (t : Nat) (x : Int) (hx : x = (L.length : Int) - 1 - t) : rNar N (L.reverse ++ R) x = some (narrow (L.drop t)) := by
  unfold rNar
  by_cases h : t < L.length
  · have hv : L[t]? = some L[t] := List.getElem?_eq_getElem h
    have h2 := at_left (R := R) t h
    rw [if_neg (by omega), if_neg (by simp; omega), Option.bind_some, show x = ((L.length - 1 - t : Nat) : Int) by omega]
    simp only []
    rw [ixg_nat (h2.trans hv), List.drop_eq_getElem_cons h]; rfl
  · rw [if_pos (by omega), List.drop_eq_nil_of_le (by omega)]; rfl
theorem rNar_right (t : Nat) (x : Int) (hx : x = (L.length : Int) + t) : rNar N (L.reverse ++ R) x = some (narrow (R.drop t)) := by
  unfold rNar
  by_cases h : t < R.length
  · have hv : R[t]? = some R[t] := List.getElem?_eq_getElem h
    have h2 := at_right (L := L) (R := R) t
    rw [if_neg (by omega), if_neg (by simp; omega), Option.bind_some, show x = ((L.length + t : Nat) : Int) by omega]
    simp only []
    rw [ixg_nat (h2.trans hv), List.drop_eq_getElem_cons h]; rfl
  · rw [if_neg (by omega), if_pos (by simp; omega), List.drop_eq_nil_of_le (by omega)]; rfl
end
end Go.Proofs.YtdbimchiecdkoaaGreat

namespace Go.Proofs.YtdbimchiecdkoaaGreat
open Go Go.RowKit Sg
set_option linter.unusedVariables false
set_option linter.unusedSimpArgs false
section
theorem pe {γ : Type} {E : Option Bool} {c : Bool} {F : Bool → Option γ} {a r : Option γ} (hE : E = some c) (h1 : F true = a) (h2 : F false = r) : E.bind F = if c = true then a else r := by
  subst hE; cases c
  · exact h2
  · exact h1
theorem pi' {γ : Type} {p : Prop} [Decidable p] {c : Bool} {a x r : Option γ} (hc : p ↔ c = true) (h2 : x = r) : (if p then a else x) = if c = true then a else r := by
  subst h2
  by_cases h : p
  · rw [if_pos h, if_pos (hc.1 h)]
  · rw [if_neg h, if_neg (fun e => h (hc.2 e))]
theorem cX (q : Int) : ([21, 20, 16, 24] : List Int).contains q = inX q := by rw [Bool.eq_iff_iff]; simp [inX, or_assoc]
theorem cS (q : Int) : ([1, 2, 3, 4, 5, 6] : List Int).contains q = spaced q := by rw [Bool.eq_iff_iff]; simp [spaced, or_assoc]
theorem cO (q : Int) : ([99, 1, 2, 3, 4, 19, 22, 8, 5, 6] : List Int).contains q = inO q := by rw [Bool.eq_iff_iff]; simp [inO, or_assoc]
theorem cC (q : Int) : ([99, 5, 8, 7, 21, 22, 20, 16, 23, 24, 1, 2, 3, 4, 6] : List Int).contains q = inC q := by rw [Bool.eq_iff_iff]; simp [inC, or_assoc]
theorem cH (q : Int) : ([99, 1, 2, 3, 4, 5, 6, 15, 8] : List Int).contains q = inH q := by rw [Bool.eq_iff_iff]; simp [inH, or_assoc]
theorem cI (q : Int) : ([29, 30, 31] : List Int).contains q = idm q := by rw [Bool.eq_iff_iff]; simp [idm, or_assoc]
theorem cJ (q : Int) : ([33, 34, 36, 37] : List Int).contains q = (q == 33 || q == 34 || q == 36 || q == 37) := by rw [Bool.eq_iff_iff]; simp [or_assoc]
variable {N : Nat} {us : List U} {i : Int} {p q o n m : Int} {u v : U} {num1 num2 od : Bool}
theorem rLat_eq (hN : 200 ≤ N) (hn1 : rNum N us (IntKind.i64.wrap (i - 1)) = some num1) (hn2 : i ≥ 2 → rNum N us (IntKind.i64.wrap (i - 2)) = some num2) (hn3 : ¬ i ≥ 2 → num2 = false) (ho : rOdd N us (IntKind.i64.wrap (i - 1)) = some od)
    (hu : ixg us i = some u) (hv : ixg us (IntKind.i64.wrap (i - 1)) = some v) :
    rLat N us i p q o n m = some (lat p q (q == 19 && (n == 27 || n == 23 && m == 27)) num1 num2 od v.2.2.2.2 u.2.2.2.2) := by
  have hin : ∀ (c : Int) (S : List Int), S.length ≤ 100 → rIn N c S = some (S.contains c) := fun c S h => rIn_eq h hN
  have h3 := fun c => hin c [29, 30, 31] (by decide)
  have h4 := fun c => hin c [33, 34, 36, 37] (by decide)
  have hl := fun c => rLet_eq (N := N) c
  have hh := fun c => rHan_eq (N := N) c hN
  unfold rLat lat
  simp only [apply_ite some]
  refine pe (by simp only [hl, Option.bind_some]; cases letter p <;> cases letter q <;> (clear hn1 hn2 hn3 ho hu hv hin h3 h4 hl hh) <;> (repeat' split) <;> simp_all) rfl ?_
  refine pe (by simp only [h3, Option.bind_some, cI]; cases idm p <;> cases idm q <;> (clear hn1 hn2 hn3 ho hu hv hin h3 h4 hl hh) <;> (repeat' split) <;> simp_all) rfl ?_
  refine pe (by simp only [hl, Option.bind_some]; cases letter p <;> cases letter q <;> (clear hn1 hn2 hn3 ho hu hv hin h3 h4 hl hh) <;> (repeat' split) <;> simp_all) rfl ?_
  refine pe (by
    by_cases h2 : i ≥ 2
    · simp only [hn1, hn2 h2, h2, if_true, Option.bind_some]; cases num1 <;> cases num2 <;> (clear hn1 hn2 hn3 ho hu hv hin h3 h4 hl hh) <;> (repeat' split) <;> simp_all
    · obtain rfl := hn3 h2; simp only [hn1, h2, if_false, Option.bind_some]; cases num1 <;> (clear hn1 hn2 hn3 ho hu hv hin h3 h4 hl hh) <;> (repeat' split) <;> simp_all) rfl ?_
  refine pe (by (clear hn1 hn2 hn3 ho hu hv hin h3 h4 hl hh) <;> (repeat' split) <;> simp_all) rfl ?_
  refine pe (by simp only [hn1, Option.bind_some]; cases num1 <;> (clear hn1 hn2 hn3 ho hu hv hin h3 h4 hl hh) <;> (repeat' split) <;> simp_all) rfl ?_
  refine pe (by simp only [h4, cJ, Option.bind_some]; (clear hn1 hn2 hn3 ho hu hv hin h3 h4 hl hh) <;> (repeat' split) <;> simp_all <;> (cases (q == 33 || q == 34 || q == 36 || q == 37) <;> rfl)) rfl ?_
  refine pe (by simp only [hh, Option.bind_some]; cases hangul p <;> cases hangul q <;> (clear hn1 hn2 hn3 ho hu hv hin h3 h4 hl hh) <;> (repeat' split) <;> simp_all) rfl ?_
  refine pe (by simp only [hl, Option.bind_some]; cases letter p <;> cases letter q <;> (clear hn1 hn2 hn3 ho hu hv hin h3 h4 hl hh) <;> (repeat' split) <;> simp_all) rfl ?_
  refine pe (by simp only [hl, hu, hv, Option.bind_some]; cases letter p <;> cases letter q <;> cases v.2.2.2.2 <;> cases u.2.2.2.2 <;> (clear hn1 hn2 hn3 ho hu hv hin h3 h4 hl hh) <;> (repeat' split) <;> simp_all) rfl ?_
  rw [ho]
  cases od <;> (clear hn1 hn2 hn3 ho hu hv hin h3 h4 hl hh) <;> (repeat' split) <;> simp_all
end
end Go.Proofs.YtdbimchiecdkoaaGreat

namespace Go.Proofs.YtdbimchiecdkoaaGreat
open Go Go.RowKit Sg
set_option linter.unusedVariables false
set_option linter.unusedSimpArgs false
def rulK (p q : Int) (zp kzw kop kopn kcl kb2 clI nNU opI clP nwP nwN nwI nwO h10 oB oHL wP : Bool) : Option (Ctl Unit Int) :=
  if (p == 1) = true then some (Ctl.ret 2)
  else if (p == 2 && q == 3) = true then some (Ctl.ret 0)
  else if (p == 2 || p == 3 || p == 4) = true then some (Ctl.ret 2)
  else if spaced q = true then some (Ctl.ret 0)
  else if kzw = true then some (Ctl.ret 1)
  else if (zp || p == 7 || q == 7 || p == 8) = true then some (Ctl.ret 0)
  else if (q == 8 && p != 5 && p != 11 && p != 14) = true then some (Ctl.ret 0)
  else if (inX q || kop) = true then some (Ctl.ret 0)
  else if kopn = true then some (Ctl.ret 0)
  else if clI = true then some (Ctl.ret 0)
  else if (p == 5 && q == 23 && nNU) = true then some (Ctl.ret 1)
  else if (q == 23 || kcl && q == 18 || kb2 && q == 13) = true then some (Ctl.ret 0)
  else if (p == 5) = true then some (Ctl.ret 1)
  else if (q == 22 && !opI || p == 22 && !clP) = true then some (Ctl.ret 0)
  else if (q == 22 && (nwP || nwN) || p == 22 && (nwI || nwO)) = true then some (Ctl.ret 0)
  else if (p == 15 || q == 15) = true then some (Ctl.ret 1)
  else if ((p == 14 || h10) && q == 0 && oB) = true then some (Ctl.ret 0)
  else if (q == 11 || q == 14 || q == 18 || p == 12) = true then some (Ctl.ret 0)
  else if (oHL && (p == 14 || p == 11 && !wP) && q != 28) = true then some (Ctl.ret 0)
  else if (p == 24 && q == 28 || q == 17) = true then some (Ctl.ret 0)
  else some (Ctl.go ())
theorem rulK_rul (p q : Int) (zp kzw kop kopn kcl kb2 clI nNU opI clP nwP nwN nwI nwO h10 oB oHL wP wI qop num1 num2 odd1 : Bool) (F : Ctl Unit Int → Option Int) (h1 : ∀ r, F (Ctl.ret r) = some r) (h2 : F (Ctl.go ()) = some (lat p q qop num1 num2 odd1 wP wI)) :
    (rulK p q zp kzw kop kopn kcl kb2 clI nNU opI clP nwP nwN nwI nwO h10 oB oHL wP).bind F = some (rul p q zp kzw kop kopn kcl kb2 clI nNU opI clP nwP nwN nwI nwO h10 oB oHL wP wI qop num1 num2 odd1) := by
  have bi : ∀ (c : Bool) (a x : Option (Ctl Unit Int)), (if c = true then a else x).bind F = if c = true then a.bind F else x.bind F := by intro c a x; cases c <;> rfl
  unfold rulK rul
  simp only [bi, Option.bind_some, h1, h2, apply_ite some]
section
variable {N : Nat} {us : List U} {i x40 : Int} {p q o n m kc j : Int} {u v : U} {num1 num2 od ok n1 n2 n3 n4 : Bool}
theorem rBetw_core (hN : 200 ≤ N) (hn1 : rNum N us (IntKind.i64.wrap (i - 1)) = some num1) (hn2 : i ≥ 2 → rNum N us (IntKind.i64.wrap (i - 2)) = some num2) (hn3 : ¬ i ≥ 2 → num2 = false) (ho : rOdd N us (IntKind.i64.wrap (i - 1)) = some od)
    (hu : ixg us i = some u) (hv : ixg us (IntKind.i64.wrap (i - 1)) = some v)
    (h7 : rAt N us (IntKind.i64.wrap (i - 1)) = some p) (h13 : rAt N us i = some q) (h19 : rAt N us (IntKind.i64.wrap (i - 2)) = some o) (h25 : rAt N us (IntKind.i64.wrap (i + 1)) = some n) (h31 : rAt N us (IntKind.i64.wrap (i + 2)) = some m)
    (hK : rBetw_L1 N us N (IntKind.i64.wrap (i - 1)) = some x40) (h86 : rAt N us x40 = some kc) (h92 : rAt N us (IntKind.i64.wrap (x40 - 1)) = some j)
    (hk : (x40 ≥ 0 ∧ ∃ w, ixg us x40 = some w ∧ opn w.1 w.2.1 = ok) ∨ (¬ x40 ≥ 0 ∧ ok = false))
    (hw1 : rNar N us (IntKind.i64.wrap (i - 1)) = some n1) (hw2 : rNar N us (IntKind.i64.wrap (i + 1)) = some n2) (hw3 : rNar N us i = some n3) (hw4 : rNar N us (IntKind.i64.wrap (i - 2)) = some n4) :
    rBetw N us i = some (rul p q v.2.2.2.1 (kc == 6) (kc == 19) (ok && inO j) (kc == 21 || kc == 20) (kc == 13) (cls0 u.1 u.2.1 && inC n) (n == 27) (opn u.1 u.2.1) (cls0 v.1 v.2.1) n1 n2 n3 n4
      (v.2.1 == 0x2010) (inH o) (o == 28) v.2.2.2.2 u.2.2.2.2 (q == 19 && (n == 27 || n == 23 && m == 27)) num1 num2 od) := by
  have hin : ∀ (c : Int) (S : List Int), S.length ≤ 100 → rIn N c S = some (S.contains c) := fun c S h => rIn_eq h hN
  have hL := rLat_eq (p := p) (q := q) (o := o) (n := n) (m := m) hN hn1 hn2 hn3 ho hu hv
  unfold rBetw
  rw [h7, Option.bind_some, h13, Option.bind_some, h19, Option.bind_some, h25, Option.bind_some, h31, Option.bind_some, hK, Option.bind_some, h86, Option.bind_some, h92, Option.bind_some]
  refine Eq.trans (congrArg (fun z => Option.bind z _) (?_ : _ = rulK p q v.2.2.2.1 (kc == 6) (kc == 19) (ok && inO j) (kc == 21 || kc == 20) (kc == 13) (cls0 u.1 u.2.1 && inC n) (n == 27) (opn u.1 u.2.1) (cls0 v.1 v.2.1) n1 n2 n3 n4 (v.2.1 == 0x2010) (inH o) (o == 28) v.2.2.2.2)) (rulK_rul _ _ _ _ _ _ _ _ _ _ _ _ _ _ _ _ _ _ _ _ _ _ _ _ _ _ (fun r => rfl) (by rw [hL]; rfl))
  clear hL hn1 hn2 hn3 ho h7 h13 h19 h25 h31 hK h86 h92
  have s6 := hin q [1, 2, 3, 4, 5, 6] (by decide)
  have s4 := hin q [21, 20, 16, 24] (by decide)
  have sO := hin j [99, 1, 2, 3, 4, 19, 22, 8, 5, 6] (by decide)
  have sC := hin n [99, 5, 8, 7, 21, 22, 20, 16, 23, 24, 1, 2, 3, 4, 6] (by decide)
  have sH := hin o [99, 1, 2, 3, 4, 5, 6, 15, 8] (by decide)
  rw [cS] at s6
  rw [cX] at s4
  rw [cO] at sO
  rw [cC] at sC
  rw [cH] at sH
  unfold rulK
  refine pi' (by simp) ?_
  refine pe (by (repeat' split) <;> simp_all) rfl ?_
  refine pe (by clear hk; (repeat' split) <;> simp_all) rfl ?_
  refine pe s6 rfl ?_
  refine pi' (by simp) ?_
  refine pe (by rw [hv, Option.bind_some]; clear hk s6 s4 sO sC sH hu hv hw1 hw2 hw3 hw4 hin; generalize v.2.2.2.1 = z; cases z <;> (repeat' split) <;> simp_all) rfl ?_
  refine pe (by clear hk s6 s4 sO sC sH hu hv hw1 hw2 hw3 hw4 hin; (repeat' split) <;> simp_all) rfl ?_
  refine pe (by rw [s4, Option.bind_some]; clear hk s6 s4 sO sC sH hu hv hw1 hw2 hw3 hw4 hin; generalize inX q = z; cases z <;> (repeat' split) <;> simp_all) rfl ?_
  refine pe (by
    rcases hk with ⟨h0, w, hw, hop⟩ | ⟨h0, hop⟩
    · rw [if_pos h0, hw, Option.bind_some, rOpn_eq, hop, Option.bind_some, sO]; cases ok <;> rfl
    · rw [if_neg h0, hop]; rfl) rfl ?_
  refine pe (by rw [hu, Option.bind_some, rCls_eq, Option.bind_some, sC]; cases cls0 u.1 u.2.1 <;> rfl) rfl ?_
  refine pe (by clear hk s6 s4 sO sC sH hu hv hw1 hw2 hw3 hw4 hin; (repeat' split) <;> simp_all) rfl ?_
  refine pe (by clear hk s6 s4 sO sC sH hu hv hw1 hw2 hw3 hw4 hin; (repeat' split) <;> simp_all) rfl ?_
  refine pi' (by simp) ?_
  refine pe (by simp only [hu, hv, Option.bind_some, rOpn_eq, rCls_eq]; clear hk s6 s4 sO sC sH hu hv hw1 hw2 hw3 hw4 hin; generalize opn u.1 u.2.1 = z; generalize cls0 v.1 v.2.1 = z2; cases z <;> cases z2 <;> (repeat' split) <;> simp_all) rfl ?_
  refine pe (by simp only [hw1, hw2, hw3, hw4, Option.bind_some]; clear hk s6 s4 sO sC sH hu hv hw1 hw2 hw3 hw4 hin; cases n1 <;> cases n2 <;> cases n3 <;> cases n4 <;> (repeat' split) <;> simp_all) rfl ?_
  refine pe (by clear hk s6 s4 sO sC sH hu hv hw1 hw2 hw3 hw4 hin; (repeat' split) <;> simp_all) rfl ?_
  refine pe (by simp only [hv, sH, Option.bind_some]; clear hk s6 s4 sO sC sH hu hv hw1 hw2 hw3 hw4 hin; generalize inH o = z; cases z <;> (repeat' split) <;> simp_all) rfl ?_
  refine pe (by clear hk s6 s4 sO sC sH hu hv hw1 hw2 hw3 hw4 hin; (repeat' split) <;> simp_all) rfl ?_
  refine pe (by simp only [hv, Option.bind_some]; clear hk s6 s4 sO sC sH hu hv hw1 hw2 hw3 hw4 hin; generalize v.2.2.2.2 = z; cases z <;> (repeat' split) <;> simp_all) rfl ?_
  clear hk s6 s4 sO sC sH hu hv hw1 hw2 hw3 hw4 hin
  (repeat' split) <;> simp_all
end
end Go.Proofs.YtdbimchiecdkoaaGreat
