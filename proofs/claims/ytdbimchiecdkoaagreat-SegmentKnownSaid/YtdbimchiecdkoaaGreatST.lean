/-
  SegmentBreaks, by lists.
-/
import Derived.Test.YtdbimchiecdkoaaGreatSJ
import Derived.Test.YtdbimchiecdkoaaGreatSV
import Derived.Test.YtdbimchiecdkoaaGreatFBreaks
namespace Go.Proofs.YtdbimchiecdkoaaGreat
open Go Go.RowKit Sg
set_option linter.unusedVariables false
set_option linter.unusedSimpArgs false
theorem cnt_le : ∀ (R : List U), Pos1 R → ∀ u ∈ R, u.2.2.1 ≤ cnt R
  | [], _, u, h => by cases h
  | v :: R, hp, u, h => by
    have hp' : Pos1 R := fun w hw => hp w (List.mem_cons_of_mem _ hw)
    have hv := hp v (List.mem_cons_self ..)
    have hc : 0 ≤ cnt R := by
      have := body_len [] R hp'
      omega
    rcases List.mem_cons.1 h with rfl | h
    · simp only [cnt]; omega
    · have := cnt_le R hp' u h
      simp only [cnt]; omega
theorem rBr_L1 {N : Nat} (hN : 2000 ≤ N) : ∀ (R L : List U) (f : Nat) (out : List Int), R.length < f → L.length + R.length ≤ 1000 → (∀ u ∈ R, 1 ≤ u.2.2.1 ∧ u.2.2.1 ≤ 1000) → out.length + (body L R).length ≤ 800000 →
    rBreaks_L1 N (L.reverse ++ R) f out (L.length : Int) = some (out ++ body L R)
  | _, _, 0, _, h, _, _, _ => by omega
  | [], L, f + 1, out, hf, hl, hp, ho => by
    unfold rBreaks_L1
    rw [if_neg (by simp)]
    simp [body]
  | u :: R, L, f + 1, out, hf, hl, hp, ho => by
    unfold rBreaks_L1
    have hu := hp u (List.mem_cons_self ..)
    simp only [List.length_cons] at hl hf
    have hx : ixg (L.reverse ++ u :: R) (L.length : Int) = some u := by
      have := at_right (L := L) (R := u :: R) 0
      rw [Nat.add_zero] at this
      exact ixg_nat this
    have hb : ((if (L.length : Int) > 0 then ((rBetw N (L.reverse ++ u :: R) (L.length : Int)).bind fun x75 => some (x75)) else some (0)) : Option Int) = some (if L.isEmpty = true then 0 else betw L (u :: R)) := by
      cases L with
      | nil => rfl
      | cons v L =>
        rw [if_pos (by simp), rBetw_eq hN v u L R (by simp at hl ⊢; omega) _ rfl]
        rfl
    have hbl : (body L (u :: R)).length = 1 + (u.2.2.1 - 1).toNat + (body (u :: L) R).length := by simp [body, zs]; omega
    have hz : zs u.2.2.1 = List.replicate (u.2.2.1 - ((1 : Nat) : Int)).toNat 0 := rfl
    have ih := rBr_L1 hN R (u :: L) f
    rw [if_pos (by simp; omega), hb]
    simp only [Option.bind_some]
    rw [apx_le (by simp; omega), Option.bind_some, show (1 : Int) = ((1 : Nat) : Int) from rfl, rBr_L2 hx hu.2 N 1 _ (by simp; omega) (by omega), Option.bind_some, w64s (by omega) (by omega)]
    rw [show (L.length : Int) + ((1 : Nat) : Int) = (((u :: L).length : Nat) : Int) by simp, show L.reverse ++ u :: R = (u :: L).reverse ++ R by simp, ih _ (by omega) (by simp; omega) (fun w hw => hp w (List.mem_cons_of_mem _ hw)) (by simp; omega)]
    rw [body, ← hz]
    simp [List.append_assoc]
theorem rBreaks_eq {N : Nat} (hN : 2000 ≤ N) {l : List Int} (hl : l.length ≤ 400) (hr : ∀ x ∈ l, i32b x = true) : rBreaks N l = some (brk breakC wdC l) := by
  unfold rBreaks
  rw [rUnits_eq (by omega) (by omega) (by omega) hr, Option.bind_some]
  have hpos := uns_pos (cls := breakC) (wd := wdC) l
  have hcnt := uns_cnt (cls := breakC) (wd := wdC) l
  have hlen := brk_len' l
  have hb : (body [] (uns breakC wdC l)).length = l.length := by
    unfold brk at hlen; rw [List.length_append, List.length_singleton] at hlen; omega
  have hlay := lr_len _ _ (uns_lay l)
  have := rBr_L1 hN (uns breakC wdC l) [] N [] (by omega) (by simp; omega) (fun u hu => ⟨hpos u hu, by have := cnt_le _ hpos u hu; omega⟩) (by simp; omega)
  simp only [List.reverse_nil, List.nil_append, List.length_nil] at this
  rw [show ((0 : Nat) : Int) = 0 from rfl] at this
  rw [this, Option.bind_some, apx_le (by simp; omega), Option.bind_some]
  rfl
theorem brk_L2 {N : Nat} {l : List Int} (hl : l.length ≤ 1000) : ∀ (f i : Nat) (out : List Int), out.length = l.length → l.length - i < f → fBreaks_L2 N l f out (i : Int) = some (Ctl.go ())
  | 0, i, out, _, h => by omega
  | f + 1, i, out, ho, hf => by
    unfold fBreaks_L2
    by_cases h : i < l.length
    · have hx := getD_some (l := out) (i := i) (by omega)
      have hs : setx out (i : Int) 9 = some (out.set i 9) := by unfold setx; rw [if_pos ⟨by omega, by omega⟩]; simp
      rw [if_pos (by omega), ix_nat hx, Option.bind_some, hs, Option.bind_some, w64s (by omega) (by omega), show (i : Int) + 1 = ((i + 1 : Nat) : Int) by omega]
      exact brk_L2 hl f (i + 1) _ (by simpa using ho) (by omega)
    · rw [if_neg (by omega)]
theorem brk_L3 {N : Nat} {l : List Int} (hl : l.length ≤ 1000) : ∀ (f i : Nat), l.length - i < f → fBreaks_L3 N l l f (i : Int) = some (Ctl.go ())
  | 0, i, h => by omega
  | f + 1, i, hf => by
    unfold fBreaks_L3
    by_cases h : i < l.length
    · have hx := getD_some h
      rw [if_pos (by omega), ix_nat hx, Option.bind_some, Option.bind_some, if_neg (fun h => h rfl), w64s (by omega) (by omega), show (i : Int) + 1 = ((i + 1 : Nat) : Int) by omega]
      exact brk_L3 hl f (i + 1) (by omega)
    · rw [if_neg (by omega)]
theorem fBreaks_true {N : Nat} {l : List Int} (hN : 2000 ≤ N) (hr : ∀ x ∈ l, i32b x = true) : fBreaks N l = some true := by
  unfold fBreaks
  rw [kWorks_true (by omega)]
  by_cases h : (l.length : Int) > 400
  · rw [if_pos h]; rfl
  have hlen := brk_len' l
  have hsame : kSame N (brk breakC wdC l) (brk breakC wdC l) = some true := by unfold kSame; simp
  have hL2 := brk_L2 (N := N) (l := brk breakC wdC l) (by omega) N 0 (brk breakC wdC l) rfl (by omega)
  have hL3 := brk_L3 (N := N) (l := l) (by omega) N 0 (by omega)
  rw [show ((0 : Nat) : Int) = 0 from rfl] at hL2 hL3
  have hL1 : fBreaks_L1 N l (brk breakC wdC l) N 0 = some (Ctl.go ()) := by
    obtain ⟨k, hk⟩ : ∃ k, N = k + 3 := ⟨N - 3, by omega⟩
    have hp : pBreaks N l = some (brk breakC wdC l) := pBreaks_ly (by omega) (by omega) (by omega)
    have step : ∀ f (x : Int), x < 2 → fBreaks_L1 N l (brk breakC wdC l) (f + 1) x = fBreaks_L1 N l (brk breakC wdC l) f (IntKind.i64.wrap (x + 1)) := by
      intro f x hx
      rw [fBreaks_L1, if_pos hx, hp, Option.bind_some, hsame, Option.bind_some]
      simp only [hL2, Option.bind_some]
    have last : ∀ f (x : Int), ¬ x < 2 → fBreaks_L1 N l (brk breakC wdC l) (f + 1) x = some (Ctl.go ()) := by
      intro f x hx
      rw [fBreaks_L1, if_neg hx]
    have e : fBreaks_L1 N l (brk breakC wdC l) (k + 3) 0 = some (Ctl.go ()) := by
      rw [step (k + 2) 0 (by decide), show IntKind.i64.wrap (0 + 1) = 1 from by rw [w64s (by decide) (by decide)]; rfl, step (k + 1) 1 (by decide), show IntKind.i64.wrap (1 + 1) = 2 from by rw [w64s (by decide) (by decide)]; rfl, last k 2 (by decide)]
    rw [← hk] at e
    exact e
  rw [if_neg h, apx_ok (by simp; omega), Option.bind_some, List.nil_append, rBreaks_eq hN (by omega) hr, Option.bind_some, hL1]
  simp only [Option.bind_some]
  rw [hL3]
  rfl
end Go.Proofs.YtdbimchiecdkoaaGreat
