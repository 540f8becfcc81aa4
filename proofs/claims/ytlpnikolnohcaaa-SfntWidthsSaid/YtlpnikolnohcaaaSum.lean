/-
  Sums: the code's and the document's.
-/
import Derived.Test.YtlpnikolnohcaaaOr
namespace Go.Proofs.Ytlpnikolnohcaaa
open Go Go.RowKit

/-- the weight of the byte at this place -/
def wgt (i : Nat) : Int := if i % 4 = 0 then 16777216 else if i % 4 = 1 then 65536 else if i % 4 = 2 then 256 else 1

def sumT : List Int → Nat → Int
  | [], _ => 0
  | x :: l, i => x * wgt i + sumT l (i + 1)

def sumS (l : List Int) : Int := sumT l 0 % 4294967296

theorem sumT_append (l m : List Int) : ∀ i, sumT (l ++ m) i = sumT l i + sumT m (i + l.length) := by
  induction l with
  | nil => intro i; simp [sumT]
  | cons x l ih =>
    intro i
    rw [List.cons_append, sumT, sumT, ih, List.length_cons, show i + 1 + l.length = i + (l.length + 1) by omega]
    omega

theorem wgt_four (i k : Nat) : wgt (i + 4 * k) = wgt i := by
  unfold wgt
  rw [show (i + 4 * k) % 4 = i % 4 by omega]

theorem sumT_four (l : List Int) (k : Nat) : ∀ i, sumT l (i + 4 * k) = sumT l i := by
  induction l with
  | nil => intro i; rfl
  | cons x l ih => intro i; rw [sumT, sumT, wgt_four, show i + 4 * k + 1 = i + 1 + 4 * k by omega, ih]

theorem sumT_next (l : List Int) (i : Nat) (h : i < l.length) : sumT (l.take (i + 1)) 0 = sumT (l.take i) 0 + l[i] * wgt i := by
  rw [List.take_succ_eq_append_getElem h, sumT_append]
  simp [sumT, Nat.min_eq_left (Nat.le_of_lt h)]

def SumRel (w : World) (l : List Int) (k : Nat) (vs vi : Value) (wr : World) : Prop := ∃ i : Nat, i + k = l.length ∧ vi = .int .i64 (i : Int) ∧ vs = .int .u32 (sumT (l.take i) 0 % 4294967296) ∧ Below w.heap.size w wr

set_option maxHeartbeats 2000000 in
set_option maxRecDepth 20000 in
theorem refSum_any (w : World) (v : Value) (l : List Int) (hv : NumZ .u8 w v l) (hA : AllB l) (hl : l.length ≤ 1000000) :
    Calls Try.prog 36 #[v] w fun e w' => e = .returned (.int .u32 (sumS l)) ∧ Below w.heap.size w w' := by
  have HV := Lib.hid hv
  have HA := Lib.hid hA
  obtain ⟨A, c, rfl, _, _, _⟩ := hv
  rename_i g1 g2 g3
  obtain ⟨N, hN⟩ : ∃ N, N = l.length := ⟨_, rfl⟩
  have HN := Lib.hid hN
  rw [← hN] at HV hl ⊢
  clear g1 g2 g3 hN hA
  go_enter Try.func36, Try.ntmps36
  go_wp2_with fail
  go_loopg [3, 4] N (fun k vs vi wr => SumRel w l k vs vi wr)
  case atStart => exact ⟨0, by have := HN.out; omega, rfl, rfl, Below.refl _ _⟩
  case round =>
    obtain ⟨i, hik, rfl, rfl, hb⟩ := hrel
    have HB := Lib.hid hb
    have HIK := Lib.hid hik
    by_cases hi : i = N
    · have bi : ((i : Int) < (N : Int)) = False := eq_false (by omega)
      have HS : Hid (sumT (l.take i) 0 % 4294967296 = sumS l) := Lib.hid (by rw [hi, HN.out, List.take_length]; rfl)
      generalize sumT (l.take i) 0 % 4294967296 = s at HS ⊢
      clear hi hik hb
      go_wp2_with fail
      go_ret
      exact ⟨by rw [HS.out]; rfl, HB.out⟩
    · have hN := HN.out
      have bi : ((i : Int) < (N : Int)) = True := eq_true (by omega)
      have iN : (i : Int) < (N : Int) := by omega
      have i0 : (0 : Int) ≤ (i : Int) := Int.natCast_nonneg _
      have hil : i < l.length := by omega
      obtain ⟨i1, hi1⟩ : ∃ i1, i1 = i + 1 := ⟨_, rfl⟩
      have q3 : IntKind.i64.wrap ((i : Int) + 1) = (i1 : Int) := by rw [IntKind.wrap_i64]; omega
      obtain ⟨g, off, rfl, _, hc⟩ := (HV.out.below hb).cells (by rintro rfl; simp at hil)
      have cx := hc i hil
      have hx := HA.out.get i hil
      have HNX := Lib.hid (sumT_next l i hil)
      obtain ⟨x, hxx⟩ : ∃ x, x = l[i] := ⟨_, rfl⟩
      rw [← hxx] at cx hx HNX
      obtain ⟨s, hs⟩ : ∃ s, s = sumT (l.take i) 0 % 4294967296 := ⟨_, rfl⟩
      rw [← hs]
      have HI1 := Lib.hid hi1
      have HS := Lib.hid hs
      have HIN := Lib.hid hi
      clear hi hik hb hi1 hc hxx hs hN
      have hu : IntKind.u32.wrap x = x := by rw [wrap_u32]; omega
      rcases (show i % 4 = 0 ∨ i % 4 = 1 ∨ i % 4 = 2 ∨ i % 4 = 3 by omega) with hr | hr | hr | hr
      · have hri : ((i : Int) % 4) = 0 := by omega
        have hrt : Int.tmod (i : Int) 4 = 0 := by rw [Int.tmod_eq_emod_of_nonneg i0]; exact hri
        have HWG : Hid (wgt i = 16777216) := Lib.hid (by simp [wgt, hr])
        clear hr
        go_wp2_with fail
        go_roundg (gk - 1)
        case measure => have := HIK.out; have := HIN.out; have := HN.out; omega
        case rel => exact ⟨i1, by have := HIK.out; have := HIN.out; have := HN.out; have := HI1.out; omega, by first | rfl | exact congrArg _ (by omega), by
            refine congrArg (Value.int IntKind.u32) ?_
            have h1 := HNX.out
            have h2 := HWG.out
            rw [HI1.out, h1, h2]
            have h3 := HS.out
            clear hri hrt
            first | (rw [wrap_u32]; omega) | omega, HB.out⟩
      · have hri : ((i : Int) % 4) = 1 := by omega
        have hrt : Int.tmod (i : Int) 4 = 1 := by rw [Int.tmod_eq_emod_of_nonneg i0]; exact hri
        have HWG : Hid (wgt i = 65536) := Lib.hid (by simp [wgt, hr])
        clear hr
        go_wp2_with fail
        go_roundg (gk - 1)
        case measure => have := HIK.out; have := HIN.out; have := HN.out; omega
        case rel => exact ⟨i1, by have := HIK.out; have := HIN.out; have := HN.out; have := HI1.out; omega, by first | rfl | exact congrArg _ (by omega), by
            refine congrArg (Value.int IntKind.u32) ?_
            have h1 := HNX.out
            have h2 := HWG.out
            rw [HI1.out, h1, h2]
            have h3 := HS.out
            clear hri hrt
            first | (rw [wrap_u32]; omega) | omega, HB.out⟩
      · have hri : ((i : Int) % 4) = 2 := by omega
        have hrt : Int.tmod (i : Int) 4 = 2 := by rw [Int.tmod_eq_emod_of_nonneg i0]; exact hri
        have HWG : Hid (wgt i = 256) := Lib.hid (by simp [wgt, hr])
        clear hr
        go_wp2_with fail
        go_roundg (gk - 1)
        case measure => have := HIK.out; have := HIN.out; have := HN.out; omega
        case rel => exact ⟨i1, by have := HIK.out; have := HIN.out; have := HN.out; have := HI1.out; omega, by first | rfl | exact congrArg _ (by omega), by
            refine congrArg (Value.int IntKind.u32) ?_
            have h1 := HNX.out
            have h2 := HWG.out
            rw [HI1.out, h1, h2]
            have h3 := HS.out
            clear hri hrt
            first | (rw [wrap_u32]; omega) | omega, HB.out⟩
      · have hri : ((i : Int) % 4) = 3 := by omega
        have hrt : Int.tmod (i : Int) 4 = 3 := by rw [Int.tmod_eq_emod_of_nonneg i0]; exact hri
        have HWG : Hid (wgt i = 1) := Lib.hid (by simp [wgt, hr])
        clear hr
        go_wp2_with fail
        go_roundg (gk - 1)
        case measure => have := HIK.out; have := HIN.out; have := HN.out; omega
        case rel => exact ⟨i1, by have := HIK.out; have := HIN.out; have := HN.out; have := HI1.out; omega, by first | rfl | exact congrArg _ (by omega), by
            refine congrArg (Value.int IntKind.u32) ?_
            have h1 := HNX.out
            have h2 := HWG.out
            rw [HI1.out, h1, h2]
            have h3 := HS.out
            clear hri hrt
            first | (rw [wrap_u32]; omega) | omega, HB.out⟩

set_option maxHeartbeats 2000000 in
set_option maxRecDepth 20000 in
theorem sum_any (w : World) (v : Value) (l : List Int) (hv : NumZ .u8 w v l) (hA : AllB l) (hl : l.length ≤ 1000000) :
    Calls Try.prog 21 #[v] w fun e w' => e = .returned (.int .u32 (sumS l)) ∧ Below w.heap.size w w' := by
  have HV := Lib.hid hv
  have HA := Lib.hid hA
  obtain ⟨A, c, rfl, _, _, _⟩ := hv
  rename_i g1 g2 g3
  obtain ⟨N, hN⟩ : ∃ N, N = l.length := ⟨_, rfl⟩
  have HN := Lib.hid hN
  rw [← hN] at HV hl ⊢
  clear g1 g2 g3 hN hA
  go_enter Try.func21, Try.ntmps21
  go_wp2_with fail
  go_loopg [3, 8] N (fun k vs vi wr => SumRel w l k vs vi wr)
  case atStart => exact ⟨0, by have := HN.out; omega, rfl, rfl, Below.refl _ _⟩
  case round =>
    obtain ⟨i, hik, rfl, rfl, hb⟩ := hrel
    have HB := Lib.hid hb
    have HIK := Lib.hid hik
    by_cases hi : i = N
    · have bi : ((i : Int) < (N : Int)) = False := eq_false (by omega)
      have HS : Hid (sumT (l.take i) 0 % 4294967296 = sumS l) := Lib.hid (by rw [hi, HN.out, List.take_length]; rfl)
      generalize sumT (l.take i) 0 % 4294967296 = s at HS ⊢
      clear hi hik hb
      go_wp2_with fail
      go_ret
      exact ⟨by rw [HS.out]; rfl, HB.out⟩
    · have hN := HN.out
      have bi : ((i : Int) < (N : Int)) = True := eq_true (by omega)
      have iN : (i : Int) < (N : Int) := by omega
      have i0 : (0 : Int) ≤ (i : Int) := Int.natCast_nonneg _
      have hil : i < l.length := by omega
      obtain ⟨i1, hi1⟩ : ∃ i1, i1 = i + 1 := ⟨_, rfl⟩
      have q3 : IntKind.i64.wrap ((i : Int) + 1) = (i1 : Int) := by rw [IntKind.wrap_i64]; omega
      obtain ⟨g, off, rfl, _, hc⟩ := (HV.out.below hb).cells (by rintro rfl; simp at hil)
      have cx := hc i hil
      have hx := HA.out.get i hil
      have HNX := Lib.hid (sumT_next l i hil)
      obtain ⟨x, hxx⟩ : ∃ x, x = l[i] := ⟨_, rfl⟩
      rw [← hxx] at cx hx HNX
      obtain ⟨s, hs⟩ : ∃ s, s = sumT (l.take i) 0 % 4294967296 := ⟨_, rfl⟩
      rw [← hs]
      have HI1 := Lib.hid hi1
      have HS := Lib.hid hs
      have HIN := Lib.hid hi
      clear hi hik hb hi1 hc hxx hs hN
      have hu : IntKind.u32.wrap x = x := by rw [wrap_u32]; omega
      rcases (show i % 4 = 0 ∨ i % 4 = 1 ∨ i % 4 = 2 ∨ i % 4 = 3 by omega) with hr | hr | hr | hr
      · have hri : ((i : Int) % 4) = 0 := by omega
        have hrt : Int.tmod (i : Int) 4 = 0 := by rw [Int.tmod_eq_emod_of_nonneg i0]; exact hri
        have HWG : Hid (wgt i = 16777216) := Lib.hid (by simp [wgt, hr])
        clear hr
        go_wp2_with fail
        go_roundg (gk - 1)
        case measure => have := HIK.out; have := HIN.out; have := HN.out; omega
        case rel => exact ⟨i1, by have := HIK.out; have := HIN.out; have := HN.out; have := HI1.out; omega, by first | rfl | exact congrArg _ (by omega), by
            refine congrArg (Value.int IntKind.u32) ?_
            have h1 := HNX.out
            have h2 := HWG.out
            rw [HI1.out, h1, h2]
            have h3 := HS.out
            clear hri hrt
            first | (rw [wrap_u32]; omega) | omega, HB.out⟩
      · have hri : ((i : Int) % 4) = 1 := by omega
        have hrt : Int.tmod (i : Int) 4 = 1 := by rw [Int.tmod_eq_emod_of_nonneg i0]; exact hri
        have HWG : Hid (wgt i = 65536) := Lib.hid (by simp [wgt, hr])
        clear hr
        go_wp2_with fail
        go_roundg (gk - 1)
        case measure => have := HIK.out; have := HIN.out; have := HN.out; omega
        case rel => exact ⟨i1, by have := HIK.out; have := HIN.out; have := HN.out; have := HI1.out; omega, by first | rfl | exact congrArg _ (by omega), by
            refine congrArg (Value.int IntKind.u32) ?_
            have h1 := HNX.out
            have h2 := HWG.out
            rw [HI1.out, h1, h2]
            have h3 := HS.out
            clear hri hrt
            first | (rw [wrap_u32]; omega) | omega, HB.out⟩
      · have hri : ((i : Int) % 4) = 2 := by omega
        have hrt : Int.tmod (i : Int) 4 = 2 := by rw [Int.tmod_eq_emod_of_nonneg i0]; exact hri
        have HWG : Hid (wgt i = 256) := Lib.hid (by simp [wgt, hr])
        clear hr
        go_wp2_with fail
        go_roundg (gk - 1)
        case measure => have := HIK.out; have := HIN.out; have := HN.out; omega
        case rel => exact ⟨i1, by have := HIK.out; have := HIN.out; have := HN.out; have := HI1.out; omega, by first | rfl | exact congrArg _ (by omega), by
            refine congrArg (Value.int IntKind.u32) ?_
            have h1 := HNX.out
            have h2 := HWG.out
            rw [HI1.out, h1, h2]
            have h3 := HS.out
            clear hri hrt
            first | (rw [wrap_u32]; omega) | omega, HB.out⟩
      · have hri : ((i : Int) % 4) = 3 := by omega
        have hrt : Int.tmod (i : Int) 4 = 3 := by rw [Int.tmod_eq_emod_of_nonneg i0]; exact hri
        have HWG : Hid (wgt i = 1) := Lib.hid (by simp [wgt, hr])
        clear hr
        go_wp2_with fail
        go_roundg (gk - 1)
        case measure => have := HIK.out; have := HIN.out; have := HN.out; omega
        case rel => exact ⟨i1, by have := HIK.out; have := HIN.out; have := HN.out; have := HI1.out; omega, by first | rfl | exact congrArg _ (by omega), by
            refine congrArg (Value.int IntKind.u32) ?_
            have h1 := HNX.out
            have h2 := HWG.out
            rw [HI1.out, h1, h2]
            have h3 := HS.out
            clear hri hrt
            first | (rw [wrap_u32]; omega) | omega, HB.out⟩

end Go.Proofs.Ytlpnikolnohcaaa
