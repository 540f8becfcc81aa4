/-
  Several texts in one: Sum, SumR, Bef, SumT.
-/
import Derived.Test.YtijmponhkabeiaaM0
import Derived.Stop.BytesEq
import Derived.Laws.Externs
import Derived.Handy
namespace Go.Proofs.Ytijmponhkabeiaa
open Go Go.RowKit

/-- the weight of the byte at this place -/
def wgt (i : Nat) : Int := if i % 4 = 0 then 16777216 else if i % 4 = 1 then 65536 else if i % 4 = 2 then 256 else 1

def sumT : List Int → Nat → Int
  | [], _ => 0
  | x :: l, i => x * wgt i + sumT l (i + 1)

def sumS (l : List Int) : Int := sumT l 0 % 4294967296

theorem sumT_append (l m : List Int) : ∀ i, sumT (l ++ m) i = sumT l i + sumT m (i + l.length) := by
  induction l with
  | nil => intro i; simp [sumT]
  | cons x l ih =>
    intro i
    rw [List.cons_append, sumT, sumT, ih, List.length_cons, show i + 1 + l.length = i + (l.length + 1) by omega]
    omega

theorem wgt_four (i k : Nat) : wgt (i + 4 * k) = wgt i := by
  unfold wgt
  rw [show (i + 4 * k) % 4 = i % 4 by omega]

theorem sumT_four (l : List Int) (k : Nat) : ∀ i, sumT l (i + 4 * k) = sumT l i := by
  induction l with
  | nil => intro i; rfl
  | cons x l ih => intro i; rw [sumT, sumT, wgt_four, show i + 4 * k + 1 = i + 1 + 4 * k by omega, ih]

theorem sumT_next (l : List Int) (i : Nat) (h : i < l.length) : sumT (l.take (i + 1)) 0 = sumT (l.take i) 0 + l[i] * wgt i := by
  rw [List.take_succ_eq_append_getElem h, sumT_append]
  simp [sumT, Nat.min_eq_left (Nat.le_of_lt h)]

def SumRel (w : World) (l : List Int) (k : Nat) (vs vi : Value) (wr : World) : Prop := ∃ i : Nat, i + k = l.length ∧ vi = .int .i64 (i : Int) ∧ vs = .int .u32 (sumT (l.take i) 0 % 4294967296) ∧ Below w.heap.size w wr

set_option maxHeartbeats 2000000 in
set_option maxRecDepth 20000 in
theorem refSum_any (w : World) (v : Value) (l : List Int) (hv : NumZ .u8 w v l) (hA : AllB l) (hl : l.length ≤ 1000000) :
    Calls Try.prog 36 #[v] w fun e w' => e = .returned (.int .u32 (sumS l)) ∧ Below w.heap.size w w' := by
  have HV := Lib.hid hv
  have HA := Lib.hid hA
  obtain ⟨A, c, rfl, _, _, _⟩ := hv
  rename_i g1 g2 g3
  obtain ⟨N, hN⟩ : ∃ N, N = l.length := ⟨_, rfl⟩
  have HN := Lib.hid hN
  rw [← hN] at HV hl ⊢
  clear g1 g2 g3 hN hA
  go_enter Try.func36, Try.ntmps36
  go_wp2_with fail
  go_loopg [3, 4] N (fun k vs vi wr => SumRel w l k vs vi wr)
  case atStart => exact ⟨0, by have := HN.out; omega, rfl, rfl, Below.refl _ _⟩
  case round =>
    obtain ⟨i, hik, rfl, rfl, hb⟩ := hrel
    have HB := Lib.hid hb
    have HIK := Lib.hid hik
    by_cases hi : i = N
    · have bi : ((i : Int) < (N : Int)) = False := eq_false (by omega)
      have HS : Hid (sumT (l.take i) 0 % 4294967296 = sumS l) := Lib.hid (by rw [hi, HN.out, List.take_length]; rfl)
      generalize sumT (l.take i) 0 % 4294967296 = s at HS ⊢
      clear hi hik hb
      go_wp2_with fail
      go_ret
      exact ⟨by rw [HS.out]; rfl, HB.out⟩
    · have hN := HN.out
      have bi : ((i : Int) < (N : Int)) = True := eq_true (by omega)
      have iN : (i : Int) < (N : Int) := by omega
      have i0 : (0 : Int) ≤ (i : Int) := Int.natCast_nonneg _
      have hil : i < l.length := by omega
      obtain ⟨i1, hi1⟩ : ∃ i1, i1 = i + 1 := ⟨_, rfl⟩
      have q3 : IntKind.i64.wrap ((i : Int) + 1) = (i1 : Int) := by rw [IntKind.wrap_i64]; omega
      obtain ⟨g, off, rfl, _, hc⟩ := (HV.out.below hb).cells (by rintro rfl; simp at hil)
      have cx := hc i hil
      have hx := HA.out.get i hil
      have HNX := Lib.hid (sumT_next l i hil)
      obtain ⟨x, hxx⟩ : ∃ x, x = l[i] := ⟨_, rfl⟩
      rw [← hxx] at cx hx HNX
      obtain ⟨s, hs⟩ : ∃ s, s = sumT (l.take i) 0 % 4294967296 := ⟨_, rfl⟩
      rw [← hs]
      have HI1 := Lib.hid hi1
      have HS := Lib.hid hs
      have HIN := Lib.hid hi
      clear hi hik hb hi1 hc hxx hs hN
      have hu : IntKind.u32.wrap x = x := by rw [wrap_u32]; omega
      rcases (show i % 4 = 0 ∨ i % 4 = 1 ∨ i % 4 = 2 ∨ i % 4 = 3 by omega) with hr | hr | hr | hr
      · have hri : ((i : Int) % 4) = 0 := by omega
        have hrt : Int.tmod (i : Int) 4 = 0 := by rw [Int.tmod_eq_emod_of_nonneg i0]; exact hri
        have HWG : Hid (wgt i = 16777216) := Lib.hid (by simp [wgt, hr])
        clear hr
        go_wp2_with fail
        go_roundg (gk - 1)
        case measure => have := HIK.out; have := HIN.out; have := HN.out; omega
        case rel => exact ⟨i1, by have := HIK.out; have := HIN.out; have := HN.out; have := HI1.out; omega, by first | rfl | exact congrArg _ (by omega), by
            refine congrArg (Value.int IntKind.u32) ?_
            have h1 := HNX.out
            have h2 := HWG.out
            rw [HI1.out, h1, h2]
            have h3 := HS.out
            clear hri hrt
            first | (rw [wrap_u32]; omega) | omega, HB.out⟩
      · have hri : ((i : Int) % 4) = 1 := by omega
        have hrt : Int.tmod (i : Int) 4 = 1 := by rw [Int.tmod_eq_emod_of_nonneg i0]; exact hri
        have HWG : Hid (wgt i = 65536) := Lib.hid (by simp [wgt, hr])
        clear hr
        go_wp2_with fail
        go_roundg (gk - 1)
        case measure => have := HIK.out; have := HIN.out; have := HN.out; omega
        case rel => exact ⟨i1, by have := HIK.out; have := HIN.out; have := HN.out; have := HI1.out; omega, by first | rfl | exact congrArg _ (by omega), by
            refine congrArg (Value.int IntKind.u32) ?_
            have h1 := HNX.out
            have h2 := HWG.out
            rw [HI1.out, h1, h2]
            have h3 := HS.out
            clear hri hrt
            first | (rw [wrap_u32]; omega) | omega, HB.out⟩
      · have hri : ((i : Int) % 4) = 2 := by omega
        have hrt : Int.tmod (i : Int) 4 = 2 := by rw [Int.tmod_eq_emod_of_nonneg i0]; exact hri
        have HWG : Hid (wgt i = 256) := Lib.hid (by simp [wgt, hr])
        clear hr
        go_wp2_with fail
        go_roundg (gk - 1)
        case measure => have := HIK.out; have := HIN.out; have := HN.out; omega
        case rel => exact ⟨i1, by have := HIK.out; have := HIN.out; have := HN.out; have := HI1.out; omega, by first | rfl | exact congrArg _ (by omega), by
            refine congrArg (Value.int IntKind.u32) ?_
            have h1 := HNX.out
            have h2 := HWG.out
            rw [HI1.out, h1, h2]
            have h3 := HS.out
            clear hri hrt
            first | (rw [wrap_u32]; omega) | omega, HB.out⟩
      · have hri : ((i : Int) % 4) = 3 := by omega
        have hrt : Int.tmod (i : Int) 4 = 3 := by rw [Int.tmod_eq_emod_of_nonneg i0]; exact hri
        have HWG : Hid (wgt i = 1) := Lib.hid (by simp [wgt, hr])
        clear hr
        go_wp2_with fail
        go_roundg (gk - 1)
        case measure => have := HIK.out; have := HIN.out; have := HN.out; omega
        case rel => exact ⟨i1, by have := HIK.out; have := HIN.out; have := HN.out; have := HI1.out; omega, by first | rfl | exact congrArg _ (by omega), by
            refine congrArg (Value.int IntKind.u32) ?_
            have h1 := HNX.out
            have h2 := HWG.out
            rw [HI1.out, h1, h2]
            have h3 := HS.out
            clear hri hrt
            first | (rw [wrap_u32]; omega) | omega, HB.out⟩

set_option maxHeartbeats 2000000 in
set_option maxRecDepth 20000 in
theorem sum_any (w : World) (v : Value) (l : List Int) (hv : NumZ .u8 w v l) (hA : AllB l) (hl : l.length ≤ 1000000) :
    Calls Try.prog 21 #[v] w fun e w' => e = .returned (.int .u32 (sumS l)) ∧ Below w.heap.size w w' := by
  have HV := Lib.hid hv
  have HA := Lib.hid hA
  obtain ⟨A, c, rfl, _, _, _⟩ := hv
  rename_i g1 g2 g3
  obtain ⟨N, hN⟩ : ∃ N, N = l.length := ⟨_, rfl⟩
  have HN := Lib.hid hN
  rw [← hN] at HV hl ⊢
  clear g1 g2 g3 hN hA
  go_enter Try.func21, Try.ntmps21
  go_wp2_with fail
  go_loopg [3, 8] N (fun k vs vi wr => SumRel w l k vs vi wr)
  case atStart => exact ⟨0, by have := HN.out; omega, rfl, rfl, Below.refl _ _⟩
  case round =>
    obtain ⟨i, hik, rfl, rfl, hb⟩ := hrel
    have HB := Lib.hid hb
    have HIK := Lib.hid hik
    by_cases hi : i = N
    · have bi : ((i : Int) < (N : Int)) = False := eq_false (by omega)
      have HS : Hid (sumT (l.take i) 0 % 4294967296 = sumS l) := Lib.hid (by rw [hi, HN.out, List.take_length]; rfl)
      generalize sumT (l.take i) 0 % 4294967296 = s at HS ⊢
      clear hi hik hb
      go_wp2_with fail
      go_ret
      exact ⟨by rw [HS.out]; rfl, HB.out⟩
    · have hN := HN.out
      have bi : ((i : Int) < (N : Int)) = True := eq_true (by omega)
      have iN : (i : Int) < (N : Int) := by omega
      have i0 : (0 : Int) ≤ (i : Int) := Int.natCast_nonneg _
      have hil : i < l.length := by omega
      obtain ⟨i1, hi1⟩ : ∃ i1, i1 = i + 1 := ⟨_, rfl⟩
      have q3 : IntKind.i64.wrap ((i : Int) + 1) = (i1 : Int) := by rw [IntKind.wrap_i64]; omega
      obtain ⟨g, off, rfl, _, hc⟩ := (HV.out.below hb).cells (by rintro rfl; simp at hil)
      have cx := hc i hil
      have hx := HA.out.get i hil
      have HNX := Lib.hid (sumT_next l i hil)
      obtain ⟨x, hxx⟩ : ∃ x, x = l[i] := ⟨_, rfl⟩
      rw [← hxx] at cx hx HNX
      obtain ⟨s, hs⟩ : ∃ s, s = sumT (l.take i) 0 % 4294967296 := ⟨_, rfl⟩
      rw [← hs]
      have HI1 := Lib.hid hi1
      have HS := Lib.hid hs
      have HIN := Lib.hid hi
      clear hi hik hb hi1 hc hxx hs hN
      have hu : IntKind.u32.wrap x = x := by rw [wrap_u32]; omega
      rcases (show i % 4 = 0 ∨ i % 4 = 1 ∨ i % 4 = 2 ∨ i % 4 = 3 by omega) with hr | hr | hr | hr
      · have hri : ((i : Int) % 4) = 0 := by omega
        have hrt : Int.tmod (i : Int) 4 = 0 := by rw [Int.tmod_eq_emod_of_nonneg i0]; exact hri
        have HWG : Hid (wgt i = 16777216) := Lib.hid (by simp [wgt, hr])
        clear hr
        go_wp2_with fail
        go_roundg (gk - 1)
        case measure => have := HIK.out; have := HIN.out; have := HN.out; omega
        case rel => exact ⟨i1, by have := HIK.out; have := HIN.out; have := HN.out; have := HI1.out; omega, by first | rfl | exact congrArg _ (by omega), by
            refine congrArg (Value.int IntKind.u32) ?_
            have h1 := HNX.out
            have h2 := HWG.out
            rw [HI1.out, h1, h2]
            have h3 := HS.out
            clear hri hrt
            first | (rw [wrap_u32]; omega) | omega, HB.out⟩
      · have hri : ((i : Int) % 4) = 1 := by omega
        have hrt : Int.tmod (i : Int) 4 = 1 := by rw [Int.tmod_eq_emod_of_nonneg i0]; exact hri
        have HWG : Hid (wgt i = 65536) := Lib.hid (by simp [wgt, hr])
        clear hr
        go_wp2_with fail
        go_roundg (gk - 1)
        case measure => have := HIK.out; have := HIN.out; have := HN.out; omega
        case rel => exact ⟨i1, by have := HIK.out; have := HIN.out; have := HN.out; have := HI1.out; omega, by first | rfl | exact congrArg _ (by omega), by
            refine congrArg (Value.int IntKind.u32) ?_
            have h1 := HNX.out
            have h2 := HWG.out
            rw [HI1.out, h1, h2]
            have h3 := HS.out
            clear hri hrt
            first | (rw [wrap_u32]; omega) | omega, HB.out⟩
      · have hri : ((i : Int) % 4) = 2 := by omega
        have hrt : Int.tmod (i : Int) 4 = 2 := by rw [Int.tmod_eq_emod_of_nonneg i0]; exact hri
        have HWG : Hid (wgt i = 256) := Lib.hid (by simp [wgt, hr])
        clear hr
        go_wp2_with fail
        go_roundg (gk - 1)
        case measure => have := HIK.out; have := HIN.out; have := HN.out; omega
        case rel => exact ⟨i1, by have := HIK.out; have := HIN.out; have := HN.out; have := HI1.out; omega, by first | rfl | exact congrArg _ (by omega), by
            refine congrArg (Value.int IntKind.u32) ?_
            have h1 := HNX.out
            have h2 := HWG.out
            rw [HI1.out, h1, h2]
            have h3 := HS.out
            clear hri hrt
            first | (rw [wrap_u32]; omega) | omega, HB.out⟩
      · have hri : ((i : Int) % 4) = 3 := by omega
        have hrt : Int.tmod (i : Int) 4 = 3 := by rw [Int.tmod_eq_emod_of_nonneg i0]; exact hri
        have HWG : Hid (wgt i = 1) := Lib.hid (by simp [wgt, hr])
        clear hr
        go_wp2_with fail
        go_roundg (gk - 1)
        case measure => have := HIK.out; have := HIN.out; have := HN.out; omega
        case rel => exact ⟨i1, by have := HIK.out; have := HIN.out; have := HN.out; have := HI1.out; omega, by first | rfl | exact congrArg _ (by omega), by
            refine congrArg (Value.int IntKind.u32) ?_
            have h1 := HNX.out
            have h2 := HWG.out
            rw [HI1.out, h1, h2]
            have h3 := HS.out
            clear hri hrt
            first | (rw [wrap_u32]; omega) | omega, HB.out⟩

end Go.Proofs.Ytijmponhkabeiaa

namespace Go.Proofs.Ytijmponhkabeiaa
open Go Go.RowKit

/-- the name head -/
def headT : List Int := [104, 101, 97, 100]

theorem sizeU8 (w : World) : (Go.sizeOf 5).run Try.prog w = .ok 1 w := by kernel_rfl

theorem tag_u8 (t : List Int) (h : AllB t) : ∃ us : List UInt8, t = us.map fun u => ((u.toNat : Nat) : Int) := by
  refine ⟨t.map fun x => UInt8.ofNat x.toNat, ?_⟩
  rw [List.map_map]
  conv => lhs; rw [← List.map_id t]
  apply List.map_congr_left
  intro x hx
  have hb := h x hx
  simp
  omega

theorem tag_cells (us : List UInt8) : tagV (us.map fun u => ((u.toNat : Nat) : Int)) = .agg (us.map Extern.Stop.cell).toArray := by
  unfold tagV
  rw [List.map_map]
  rfl

/-- names compared -/
theorem eq_tags (W : World) (a b : List Int) (ha : AllB a) (hb : AllB b) (la : a.length = 4) (lb : b.length = 4) : (binOp BinOp.eql 39 (tagV a) (tagV b)).run Try.prog W = .ok (.bool (decide (a = b))) W := by
  obtain ⟨us, rfl⟩ := tag_u8 a ha
  obtain ⟨vs, rfl⟩ := tag_u8 b hb
  rw [tag_cells, tag_cells, run_eql_bytes (P := Try.prog) W 39 5 4 Try.underlying39 Try.underlying5 sizeU8 us vs (by simpa using la) (by simpa using lb)]
  congr 2
  rw [Bool.eq_iff_iff, beq_iff_eq, decide_eq_true_eq]
  constructor
  · intro h; rw [h]
  · intro h
    have hinj : ∀ x y : UInt8, ((x.toNat : Nat) : Int) = ((y.toNat : Nat) : Int) → x = y := fun x y hxy => UInt8.toNat_inj.1 (by omega)
    exact (List.map_inj_right hinj).1 h

theorem headT_b : AllB headT := fun x hx => by simp [headT] at hx; omega

set_option maxRecDepth 20000 in
theorem isHead_any (w : World) (t : List Int) (hb : AllB t) (ht : t.length = 4) : Calls Try.prog 33 #[tagV t] w fun e w' => e = .returned (.bool (decide (t = headT))) ∧ Below w.heap.size w w' := by
  have heq := fun W => eq_tags W t headT hb headT_b ht rfl
  obtain ⟨a, b, c, d, rfl⟩ : ∃ a b c d, t = [a, b, c, d] := by
    match t, ht with
    | [a, b, c, d], _ => exact ⟨a, b, c, d, rfl⟩
  obtain ⟨R, hR⟩ : ∃ R, R = decide ([a, b, c, d] = headT) := ⟨_, rfl⟩
  rw [← hR] at heq ⊢
  have heq' : ∀ W, (binOp BinOp.eql 39 (.agg #[.int .u8 a, .int .u8 b, .int .u8 c, .int .u8 d]) (.agg #[.int .u8 104, .int .u8 101, .int .u8 97, .int .u8 100])).run Try.prog W = .ok (.bool R) W := heq
  show Calls Try.prog 33 #[.agg #[.int .u8 a, .int .u8 b, .int .u8 c, .int .u8 d]] w _
  clear hR ht hb heq
  go_enter Try.func33, Try.ntmps33
  go_wp2_with fail
  go_ret
  exact ⟨rfl, below_alloc _ (Below.refl _ w)⟩
end Go.Proofs.Ytijmponhkabeiaa

namespace Go.Proofs.Ytijmponhkabeiaa
open Go Go.RowKit

theorem cmp_four (u0 u1 u2 u3 v0 v1 v2 v3 : UInt8) : Extern.BytealgCompare.cmp ⟨#[u0, u1, u2, u3]⟩ ⟨#[v0, v1, v2, v3]⟩ =
    if u0 != v0 then (if u0 < v0 then -1 else 1) else if u1 != v1 then (if u1 < v1 then -1 else 1) else if u2 != v2 then (if u2 < v2 then -1 else 1) else if u3 != v3 then (if u3 < v3 then -1 else 1) else 0 := by
  have hr : List.range (min (⟨#[u0, u1, u2, u3]⟩ : ByteArray).size (⟨#[v0, v1, v2, v3]⟩ : ByteArray).size) = [0, 1, 2, 3] := rfl
  have a0 : (⟨#[u0, u1, u2, u3]⟩ : ByteArray)[0]! = u0 := rfl
  have a1 : (⟨#[u0, u1, u2, u3]⟩ : ByteArray)[1]! = u1 := rfl
  have a2 : (⟨#[u0, u1, u2, u3]⟩ : ByteArray)[2]! = u2 := rfl
  have a3 : (⟨#[u0, u1, u2, u3]⟩ : ByteArray)[3]! = u3 := rfl
  have b0 : (⟨#[v0, v1, v2, v3]⟩ : ByteArray)[0]! = v0 := rfl
  have b1 : (⟨#[v0, v1, v2, v3]⟩ : ByteArray)[1]! = v1 := rfl
  have b2 : (⟨#[v0, v1, v2, v3]⟩ : ByteArray)[2]! = v2 := rfl
  have b3 : (⟨#[v0, v1, v2, v3]⟩ : ByteArray)[3]! = v3 := rfl
  have s1 : (⟨#[u0, u1, u2, u3]⟩ : ByteArray).size = 4 := rfl
  have s2 : (⟨#[v0, v1, v2, v3]⟩ : ByteArray).size = 4 := rfl
  unfold Extern.BytealgCompare.cmp
  rw [hr]
  simp only [List.find?_cons, List.find?_nil, a0, a1, a2, a3, b0, b1, b2, b3, s1, s2]
  cases h0 : (u0 != v0)
  · cases h1 : (u1 != v1)
    · cases h2 : (u2 != v2)
      · cases h3 : (u3 != v3)
        · simp
        · simp [a3, b3]
      · simp [a2, b2]
    · simp [a1, b1]
  · simp [a0, b0]

/-- names as bytes -/
def tagB (us : List UInt8) : List Int := us.map fun u => ((u.toNat : Nat) : Int)

theorem cmp_less (u0 u1 u2 u3 v0 v1 v2 v3 : UInt8) : decide (Extern.BytealgCompare.cmp ⟨#[u0, u1, u2, u3]⟩ ⟨#[v0, v1, v2, v3]⟩ < 0) = lessL (tagB [u0, u1, u2, u3]) (tagB [v0, v1, v2, v3]) := by
  rw [cmp_four]
  have key : ∀ (u v : UInt8), ((u != v) = false ↔ ((u.toNat : Nat) : Int) = ((v.toNat : Nat) : Int)) ∧ (u < v ↔ ((u.toNat : Nat) : Int) < ((v.toNat : Nat) : Int)) := by
    intro u v
    refine ⟨?_, ?_⟩
    · rw [bne_eq_false_iff_eq]
      exact ⟨fun h => by rw [h], fun h => UInt8.toNat_inj.1 (by omega)⟩
    · rw [UInt8.lt_iff_toNat_lt]; omega
  have step : ∀ (u v : UInt8) (x : Int) (y : Bool), decide (x < 0) = y → decide ((if u != v then (if u < v then (-1 : Int) else 1) else x) < 0) = if ((u.toNat : Nat) : Int) = ((v.toNat : Nat) : Int) then y else decide (((u.toNat : Nat) : Int) < ((v.toNat : Nat) : Int)) := by
    intro u v x y hxy
    cases h : (u != v) with
    | false => rw [if_pos ((key u v).1.1 h)]; simpa using hxy
    | true =>
      have hne : ¬ ((u.toNat : Nat) : Int) = ((v.toNat : Nat) : Int) := fun e => by rw [(key u v).1.2 e] at h; cases h
      rw [if_neg hne, if_pos rfl]
      by_cases hl : u < v
      · rw [if_pos hl, decide_eq_true ((key u v).2.1 hl)]; rfl
      · have hn : ¬ ((u.toNat : Nat) : Int) < ((v.toNat : Nat) : Int) := fun e => hl ((key u v).2.2 e)
        rw [if_neg hl, decide_eq_false hn]; rfl
  simp only [tagB, List.map_cons, List.map_nil, lessL]
  exact step _ _ _ _ (step _ _ _ _ (step _ _ _ _ (step _ _ _ _ (by decide))))

/-- the four bytes of a name, read -/
theorem load_four (w : World) (g : Nat) (us : List UInt8) (u0 u1 u2 u3 : UInt8) (hu : us = [u0, u1, u2, u3]) (hc : ∀ i (h : i < (tagB us).length), w.cell? ⟨g, i, none⟩ = some (.int .u8 (tagB us)[i])) :
    (Extern.Bytes.bytesOf (.slice (some ⟨g, 0, none⟩) 4 4)).run Try.prog w = .ok ⟨#[u0, u1, u2, u3]⟩ w := by
  subst hu
  have c0 := hc 0 (by simp [tagB])
  have c1 := hc 1 (by simp [tagB])
  have c2 := hc 2 (by simp [tagB])
  have c3 := hc 3 (by simp [tagB])
  simp [tagB] at c0 c1 c2 c3
  simp [Extern.Bytes.bytesOf, Extern.Bytes.loadBytes, go_sem, c0, c1, c2, c3]
  rfl

set_option maxRecDepth 20000 in
theorem compare_any (w : World) (g h : Nat) (u0 u1 u2 u3 v0 v1 v2 v3 : UInt8) (hg : ∀ i (h : i < (tagB [u0, u1, u2, u3]).length), w.cell? ⟨g, i, none⟩ = some (.int .u8 (tagB [u0, u1, u2, u3])[i])) (hh : ∀ i (h' : i < (tagB [v0, v1, v2, v3]).length), w.cell? ⟨h, i, none⟩ = some (.int .u8 (tagB [v0, v1, v2, v3])[i])) :
    Calls Try.prog 71 #[.slice (some ⟨g, 0, none⟩) 4 4, .slice (some ⟨h, 0, none⟩) 4 4] w fun e w' => e = .returned (.int .i64 (Extern.BytealgCompare.cmp ⟨#[u0, u1, u2, u3]⟩ ⟨#[v0, v1, v2, v3]⟩)) ∧ w = w' := by
  obtain ⟨C, hC⟩ : ∃ C, C = Extern.BytealgCompare.cmp ⟨#[u0, u1, u2, u3]⟩ ⟨#[v0, v1, v2, v3]⟩ := ⟨_, rfl⟩
  rw [← hC]
  have henc : (callFunc 77 #[.slice (some ⟨g, 0, none⟩) 4 4, .slice (some ⟨h, 0, none⟩) 4 4]).run Try.prog w = .ok (.value (.int .i64 C)) w := by
    rw [run_callFunc_extern (e := Extern.BytealgCompare.compare) Try.func77 (by kernel_rfl) (by kernel_rfl) (by kernel_rfl) (by kernel_rfl)]
    have e : ∀ a b : Value, Extern.BytealgCompare.compare #[a, b] = (do pure (goInt (Extern.BytealgCompare.cmp (← Extern.Bytes.bytesOf a) (← Extern.Bytes.bytesOf b)))) := fun _ _ => rfl
    rw [e]
    simp only [Sem.run_bind]
    rw [load_four w g _ u0 u1 u2 u3 rfl hg]
    simp only [Result.andThen]
    rw [load_four w h _ v0 v1 v2 v3 rfl hh]
    rw [hC]; rfl
  clear hg hh hC
  go_enter Try.func71, Try.ntmps71
  go_wp2_with fail
  go_ret
  exact ⟨rfl, rfl⟩

set_option maxHeartbeats 2000000 in
set_option maxRecDepth 20000 in
theorem before_any (w : World) (a b : List Int) (hA : AllB a) (hB : AllB b) (la : a.length = 4) (lb : b.length = 4) :
    Calls Try.prog 53 #[tagV a, tagV b] w fun e w' => e = .returned (.bool (lessL a b)) ∧ Below w.heap.size w w' := by
  obtain ⟨us, rfl⟩ := tag_u8 a hA
  obtain ⟨vs, rfl⟩ := tag_u8 b hB
  obtain ⟨u0, u1, u2, u3, rfl⟩ : ∃ u0 u1 u2 u3, us = [u0, u1, u2, u3] := by
    match us, la with
    | [a, b, c, d], _ => exact ⟨a, b, c, d, rfl⟩
  obtain ⟨v0, v1, v2, v3, rfl⟩ : ∃ u0 u1 u2 u3, vs = [u0, u1, u2, u3] := by
    match vs, lb with
    | [a, b, c, d], _ => exact ⟨a, b, c, d, rfl⟩
  have hR := cmp_less u0 u1 u2 u3 v0 v1 v2 v3
  have HCMP : Hid (∀ wx g h, (∀ i (h : i < (tagB [u0, u1, u2, u3]).length), wx.cell? ⟨g, i, none⟩ = some (.int .u8 (tagB [u0, u1, u2, u3])[i])) → (∀ i (h' : i < (tagB [v0, v1, v2, v3]).length), wx.cell? ⟨h, i, none⟩ = some (.int .u8 (tagB [v0, v1, v2, v3])[i])) →
      Calls Try.prog 71 #[.slice (some ⟨g, 0, none⟩) 4 4, .slice (some ⟨h, 0, none⟩) 4 4] wx fun e w' => e = .returned (.int .i64 (Extern.BytealgCompare.cmp ⟨#[u0, u1, u2, u3]⟩ ⟨#[v0, v1, v2, v3]⟩)) ∧ wx = w') := Lib.hid (fun wx g h hg hh => compare_any wx g h u0 u1 u2 u3 v0 v1 v2 v3 hg hh)
  generalize Extern.BytealgCompare.cmp ⟨#[u0, u1, u2, u3]⟩ ⟨#[v0, v1, v2, v3]⟩ = C at hR HCMP
  show Calls Try.prog 53 #[tagV (tagB [u0, u1, u2, u3]), tagV (tagB [v0, v1, v2, v3])] w fun e w' => e = .returned (.bool (lessL (tagB [u0, u1, u2, u3]) (tagB [v0, v1, v2, v3]))) ∧ Below w.heap.size w w'
  rw [← hR]
  obtain ⟨cu, hcu⟩ : ∃ cu, cu = ((tagB [u0, u1, u2, u3]).map fun x => Value.int .u8 x).toArray := ⟨_, rfl⟩
  obtain ⟨cv, hcv⟩ : ∃ cv, cv = ((tagB [v0, v1, v2, v3]).map fun x => Value.int .u8 x).toArray := ⟨_, rfl⟩
  unfold tagV
  rw [← hcu, ← hcv]
  obtain ⟨w1, hw1⟩ : ∃ w1, w.alloc (.cells cu 39) = w1 := ⟨_, rfl⟩
  obtain ⟨w2, hw2⟩ : ∃ w2, w1.alloc (.cells cv 39) = w2 := ⟨_, rfl⟩
  have hs1 : w1.heap.size = w.heap.size + 1 := by rw [← hw1, heap_plus]
  have HB2 : Hid (Below w.heap.size w w2) := Lib.hid (by rw [← hw2, ← hw1]; exact below_alloc _ (below_alloc _ (Below.refl _ w)))
  have HCU : Hid (∀ i (h : i < (tagB [u0, u1, u2, u3]).length), w2.cell? ⟨w.heap.size, i, none⟩ = some (.int .u8 (tagB [u0, u1, u2, u3])[i])) := Lib.hid (fun i hi => by
    rw [← hw2]
    refine cells_alloc _ ?_
    rw [← hw1, cell_of_row _ w.heap.size i _ _ _ (heap_alloc_new w _), hcu]
    simp [hi])
  have HCV : Hid (∀ i (h : i < (tagB [v0, v1, v2, v3]).length), w2.cell? ⟨w1.heap.size, i, none⟩ = some (.int .u8 (tagB [v0, v1, v2, v3])[i])) := Lib.hid (fun i hi => by
    rw [← hw2, cell_of_row _ w1.heap.size i _ _ _ (heap_alloc_new w1 _), hcv]
    simp [hi])
  have HCALL := Lib.hid (fun wx (hx : Below w2.heap.size w2 wx) => HCMP.out wx w.heap.size (w.heap.size + 1) (fun i hi => cellsAt_below (HCU.out i hi) hx) (fun i hi => by rw [← hs1]; exact cellsAt_below (HCV.out i hi) hx))
  clear hR la lb hcu hcv hA hB
  go_enter Try.func53, Try.ntmps53
  go_upto_region 1 with fail
  clear hw1 hw2
  go_region_held3 (fun w' => Below w2.heap.size w2 w')
    (first | assumption | exact (Below.refl _ w2).drew | exact Below.refl _ w2)
    (first
      | (go_at_call 71; go_split_ands; refine (HCALL.out _ (by assumption)).mono ?_; rintro e wx ⟨rfl, rfl⟩))
  all_goals (go_wp2_with fail; go_ret; exact ⟨rfl, HB2.out.trans ((by assumption : Below w2.heap.size w2 _).mono HB2.out.size)⟩)
end Go.Proofs.Ytijmponhkabeiaa

namespace Go.Proofs.Ytijmponhkabeiaa
open Go Go.RowKit

/-- the bytes from 8 to before i as noughts -/
def zeroTo (l : List Int) (i : Nat) : List Int := (List.range l.length).map fun j => if 8 ≤ j ∧ j < i then 0 else l.getD j 0

theorem zeroTo_len (l : List Int) (i : Nat) : (zeroTo l i).length = l.length := by simp [zeroTo]
theorem zeroTo_get (l : List Int) (i j : Nat) (h : j < l.length) : (zeroTo l i)[j]'(by rw [zeroTo_len]; exact h) = if 8 ≤ j ∧ j < i then 0 else l[j] := by
  simp [zeroTo, h]
theorem zeroTo_eight (l : List Int) : zeroTo l 8 = l := by
  apply List.ext_getElem (zeroTo_len l 8)
  intro j h1 h2
  rw [zeroTo_get l 8 j h2, if_neg (by omega)]
theorem zeroTo_end (l : List Int) (i : Nat) (h : l.length ≤ i) (h12 : i ≤ 12) : zeroTo l i = zeroTo l 12 := by
  apply List.ext_getElem (by rw [zeroTo_len, zeroTo_len])
  intro j h1 h2
  have hj : j < l.length := by rw [zeroTo_len] at h1; exact h1
  rw [zeroTo_get l i j hj, zeroTo_get l 12 j hj]
  by_cases h8 : 8 ≤ j
  · rw [if_pos ⟨h8, by omega⟩, if_pos ⟨h8, by omega⟩]
  · rw [if_neg (by omega), if_neg (by omega)]
theorem zeroTo_b {l : List Int} (h : AllB l) (i : Nat) : AllB (zeroTo l i) := by
  intro x hx
  simp only [zeroTo, List.mem_map, List.mem_range] at hx
  obtain ⟨j, hj, rfl⟩ := hx
  split
  · omega
  · exact getD_b h j

/-- a table's sum -/
def sumTag (t l : List Int) : Int := sumS (if t = headT then zeroTo l 12 else l)

def STRel (w1 : World) (A : Option Addr) (l : List Int) (R : Bool) (k : Nat) (vi : Value) (wr : World) : Prop := ∃ i : Nat, i + k = 12 ∧ 8 ≤ i ∧ vi = .int .i64 (i : Int) ∧ (8 < i → R = true) ∧ Below w1.heap.size w1 wr ∧
  (l ≠ [] → ∃ g, A = some ⟨g, 0, none⟩ ∧ w1.heap.size ≤ g ∧ g < wr.heap.size ∧ ∀ j (h : j < l.length), wr.frozen? ⟨g, j, none⟩ = false ∧ wr.cell? ⟨g, j, none⟩ = some (.int .u8 ((zeroTo l i)[j]'(by rw [zeroTo_len]; exact h))))

set_option maxHeartbeats 8000000 in
set_option maxRecDepth 20000 in
theorem sumT_any (w : World) (t : List Int) (ht : AllB t) (lt : t.length = 4) (v : Value) (l : List Int) (hv : NumZ .u8 w v l) (hnn : ∀ n c, v = .slice none n c → n = 0 ∧ c = 0) (hA : AllB l) (hl : l.length ≤ 1000000) :
    Calls Try.prog 29 #[tagV t, v] w fun e w' => e = .returned (.int .u32 (sumTag t l)) ∧ Below w.heap.size w w' := by
  have HIH := Lib.hid (fun wx => isHead_any wx t ht lt)
  have HS : Hid (∀ wx vx m, NumZ .u8 wx vx m → AllB m → m.length ≤ 1000000 → Calls Try.prog 36 #[vx] wx fun e w' => e = .returned (.int .u32 (sumS m)) ∧ Below wx.heap.size wx w') := Lib.hid (fun wx vx m h1 h2 h3 => refSum_any wx vx m h1 h2 h3)
  have HV := Lib.hid hv
  have HNN := Lib.hid hnn
  have HA := Lib.hid hA
  have HL := Lib.hid hl
  obtain ⟨tv, htv⟩ : ∃ tv, tv = (t.map fun x => Value.int .u8 x).toArray := ⟨_, rfl⟩
  have htl : tv.size = 4 := by rw [htv]; simp [lt]
  obtain ⟨a, b, c, d, rfl⟩ : ∃ a b c d, t = [a, b, c, d] := by
    match t, lt with
    | [a, b, c, d], _ => exact ⟨a, b, c, d, rfl⟩
  obtain ⟨R, hR⟩ : ∃ R, R = decide ([a, b, c, d] = headT) := ⟨_, rfl⟩
  have HR := Lib.hid hR
  rw [← hR] at HIH
  obtain ⟨Z, hZ⟩ : ∃ Z, Z = sumTag [a, b, c, d] l := ⟨_, rfl⟩
  rw [← hZ]
  have HZ : Hid ((R = true → Z = sumS (zeroTo l 12)) ∧ (R = false → Z = sumS l)) := Lib.hid (by
    rw [hZ, hR]; unfold sumTag
    constructor
    · intro h; rw [if_pos (of_decide_eq_true h)]
    · intro h; rw [if_neg (of_decide_eq_false h)])
  have HIH2 : Hid (∀ wx, Calls Try.prog 33 #[.agg #[.int .u8 a, .int .u8 b, .int .u8 c, .int .u8 d]] wx fun e w' => e = .returned (.bool R) ∧ Below wx.heap.size wx w') := HIH
  show Calls Try.prog 29 #[.agg #[.int .u8 a, .int .u8 b, .int .u8 c, .int .u8 d], v] w _
  obtain ⟨w1, hw1⟩ : ∃ w1, w.alloc (.cells #[.int .u8 a, .int .u8 b, .int .u8 c, .int .u8 d] 39) = w1 := ⟨_, rfl⟩
  have HB1 : Hid (Below w.heap.size w w1) := Lib.hid (by rw [← hw1]; exact below_alloc _ (Below.refl _ w))
  have HT1 : Hid (∀ wx, Below w1.heap.size w1 wx → wx.cell? ⟨w.heap.size, 0, none⟩ = some (.int .u8 a) ∧ wx.cell? ⟨w.heap.size, 1, none⟩ = some (.int .u8 b) ∧ wx.cell? ⟨w.heap.size, 2, none⟩ = some (.int .u8 c) ∧ wx.cell? ⟨w.heap.size, 3, none⟩ = some (.int .u8 d)) := Lib.hid (fun wx hx => by
    refine ⟨cellsAt_below ?_ hx, cellsAt_below ?_ hx, cellsAt_below ?_ hx, cellsAt_below ?_ hx⟩ <;> (rw [← hw1, cell_of_row _ w.heap.size _ _ _ _ (heap_alloc_new w _)]; rfl))
  clear HIH hR hZ ht htv htl lt hv hnn hA hl
  go_enter Try.func29, Try.ntmps29
  go_wp2_with (at_builtin; refine wp_append_b rfl _ _ rfl w1.heap.size (.slice none 0 0) [] rfl (OwnB.nil _ _) _ l rfl (HV.out.below HB1.out) HNN.out (by have := HL.out; simp; omega) (Nat.le_refl _) ?_)
  intro v2 w2 how2 hk2
  have HB2 := Lib.hid (hk2 _ (Below.refl _ w1))
  obtain ⟨⟨A, c2, hv2⟩, _⟩ := ownB_cases how2
  have hrd : NumZ .u8 w2 (.slice A l.length c2) l := by have h := how2.read; rw [hv2] at h; exact h
  have hown : w2.ownsRow w1.heap.size 5 1 (.slice A l.length c2) l.length (l.map fun d : Int => Value.int .u8 d) := by rw [hv2] at how2; exact how2
  have HST : Hid (STRel w1 A l R 4 (.int .i64 8) w2) := Lib.hid ⟨8, rfl, Nat.le_refl _, rfl, fun h => absurd h (Nat.lt_irrefl _), HB2.out, fun hne => by
    rcases hown.2 with ⟨_, h0⟩ | ⟨g, cap, cur, e, hb, hg, rest⟩
    · exact absurd (List.length_eq_zero_iff.1 h0) hne
    · injection e with e1 e2 e3
      subst e1
      refine ⟨g, rfl, hb, own_row_lt hg, fun j hj => ⟨hown.frozenAt j, ?_⟩⟩
      have h := hown.cells (g := g) rfl j (.int .u8 l[j]) (by simp [hj])
      rw [add_flat, Nat.zero_add] at h
      rw [h, zeroTo_get l 8 j hj, if_neg (by omega)]⟩
  have HCC : Hid (l.length ≤ c2 ∧ c2 ≤ 9223372036854775807) := Lib.hid (by
    obtain ⟨A', c', e, h1, h2, _⟩ := hrd
    injection e with _ _ e3
    subst e3
    exact ⟨h1, h2⟩)
  have hv3 : v2 = .slice A l.length c2 := hv2
  subst hv3
  obtain ⟨N, hN⟩ : ∃ N, N = l.length := ⟨_, rfl⟩
  have HN := Lib.hid hN
  rw [← hN]
  clear hk2 how2 hrd hown hN hw1 hv2
  go_wp2_with fail
  go_loopg [6] 4 (fun k vi wr => STRel w1 A l R k vi wr)
  case atStart => exact HST.out
  case round =>
    obtain ⟨i, hik, h8, rfl, hrt, hbw, hcs⟩ := hrel
    have HBW := Lib.hid hbw
    have HCS := Lib.hid hcs
    have HRT := Lib.hid hrt
    have HIK := Lib.hid hik
    have HZR : Hid (NumZ .u8 wr (.slice A N c2) (zeroTo l i)) := Lib.hid ⟨A, c2, by rw [zeroTo_len, HN.out], by rw [zeroTo_len]; exact HCC.out.1, HCC.out.2, fun hne => by
      have hl : l ≠ [] := by rintro rfl; exact hne rfl
      obtain ⟨g, rfl, _, hg, hc⟩ := hcs hl
      refine ⟨g, 0, rfl, hg, fun j hj => ?_⟩
      rw [Nat.zero_add]
      exact (hc j (by rw [zeroTo_len] at hj; exact hj)).2⟩
    have HSUM : Hid (Calls Try.prog 36 #[.slice A N c2] wr fun e w' => e = .returned (.int .u32 (sumS (zeroTo l i))) ∧ Below wr.heap.size wr w') := Lib.hid (HS.out wr _ _ HZR.out (zeroTo_b HA.out i) (by rw [zeroTo_len]; exact HL.out))
    have HSUM2 : Hid (∀ wx, Below wr.heap.size wr wx → Calls Try.prog 36 #[.slice A N c2] wx fun e w' => e = .returned (.int .u32 (sumS (zeroTo l i))) ∧ Below wx.heap.size wx w') := Lib.hid (fun wx hx => HS.out wx _ _ (HZR.out.below hx) (zeroTo_b HA.out i) (by rw [zeroTo_len]; exact HL.out))
    by_cases hi : i = 12
    · have hZ : Z = sumS (zeroTo l i) := by rw [hi]; exact HZ.out.1 (hrt (by omega))
      have b1 : ((i : Int) < 12) = False := eq_false (by omega)
      have HZV := Lib.hid hZ
      clear hi hZ hik h8 hrt hbw hcs
      go_wp2_with fail
      refine (HSUM.out).mono ?_
      rintro e w5 ⟨rfl, hb5⟩
      rw [← HZV.out]
      have HB5 := Lib.hid (HB1.out.trans ((HBW.out.trans (hb5.mono HBW.out.size)).mono HB1.out.size))
      clear hb5
      go_wp2_with fail
      go_ret
      exact ⟨rfl, HB5.out⟩
    · have b1 : ((i : Int) < 12) = True := eq_true (by omega)
      by_cases hin : i < N
      · have b2 : ((i : Int) < (N : Int)) = True := eq_true (by omega)
        obtain ⟨c0, c1, c2', c3⟩ := HT1.out wr hbw
        cases R with
        | false =>
          have hi8 : i = 8 := by
            rcases Nat.lt_or_ge 8 i with h | h
            · have := hrt h; cases this
            · omega
          have hZ : Z = sumS (zeroTo l i) := by rw [hi8, zeroTo_eight]; exact HZ.out.2 rfl
          have HZV := Lib.hid hZ
          clear hi hZ hik h8 hrt hbw hcs hin hi8
          go_wp2_with fail
          refine (HIH2.out _).mono ?_
          rintro e w4 ⟨rfl, hb4⟩
          have HB4 := Lib.hid hb4
          clear hb4 c0 c1 c2' c3
          go_wp2_with fail
          refine (HSUM2.out _ HB4.out).mono ?_
          rintro e w5 ⟨rfl, hb5⟩
          rw [← HZV.out]
          have HB5 := Lib.hid (HB1.out.trans ((HBW.out.trans ((HB4.out.trans (hb5.mono HB4.out.size)).mono HBW.out.size)).mono HB1.out.size))
          clear hb5
          go_wp2_with fail
          go_ret
          exact ⟨rfl, HB5.out⟩
        | true =>
          have hil : i < l.length := by have := HN.out; omega
          obtain ⟨g, rfl, hg1, hg2, hc⟩ := hcs (by rintro rfl; simp at hil)
          obtain ⟨i1, hi1⟩ : ∃ i1, i1 = i + 1 := ⟨_, rfl⟩
          have q1 : IntKind.i64.wrap ((i : Int) + 1) = (i1 : Int) := by rw [IntKind.wrap_i64]; omega
          have i0 : (0 : Int) ≤ (i : Int) := Int.natCast_nonneg _
          have iN : (i : Int) < (N : Int) := by omega
          have HC := Lib.hid hc
          have HG1 := Lib.hid hg1
          have HG2 := Lib.hid hg2
          have HI1 := Lib.hid hi1
          have HIN := Lib.hid hi
          have H8 := Lib.hid h8
          have HIL := Lib.hid hil
          clear hi hik h8 hrt hbw hcs hin hc hg1 hg2 hi1 hil
          go_wp2_with fail
          refine (HIH2.out _).mono ?_
          rintro e w4 ⟨rfl, hb4⟩
          have HB4 := Lib.hid hb4
          have hz := cellsAt_below (HC.out i HIL.out).2 hb4
          have hfz : w4.frozen? ⟨g, i, none⟩ = false := by rw [hb4.frozen (by exact HG2.out)]; exact (HC.out i HIL.out).1
          have HZC := Lib.hid hz
          obtain ⟨old, hold⟩ : ∃ old, old = (zeroTo l i)[i]'(by rw [zeroTo_len]; exact HIL.out) := ⟨_, rfl⟩
          rw [← hold] at hz
          clear hb4 c0 c1 c2' c3 hold
          go_wp2_with fail
          have HNXT : Hid (STRel w1 (some ⟨g, 0, none⟩) l true (gk - 1) (.int .i64 (i1 : Int)) (w4.setCell ⟨g, i, none⟩ (.int .u8 0))) := Lib.hid ⟨i1, by have := HIK.out; have := HIN.out; have := HI1.out; omega, by have := H8.out; have := HI1.out; omega, rfl, fun _ => rfl, (HBW.out.trans (HB4.out.mono HBW.out.size)).setCell (p := ⟨g, i, none⟩) HG1.out _, fun _ => ⟨g, rfl, HG1.out, by
              have h := ((Below.refl 0 w4).setCell (p := ⟨g, i, none⟩) (Nat.zero_le _) (.int .u8 0)).size
              have h2 := HB4.out.size
              have h3 := HG2.out
              omega, fun j hj => ⟨by rw [World.frozen?_setCell, HB4.out.frozen (by exact HG2.out)]; exact (HC.out j hj).1, by
              have hj' := cellsAt_below (HC.out j hj).2 HB4.out
              by_cases hji : j = i
              · subst hji
                rw [World.cell?_setCell_same _ _ _ HZC.out, zeroTo_get l i1 j hj, if_pos ⟨H8.out, by have := HI1.out; omega⟩]
              · rw [World.cell?_setCell_other _ _ _ _ (fun e => hji (by injection e with _ e _; exact e.symm)), hj', zeroTo_get l i j hj, zeroTo_get l i1 j hj]
                by_cases h8 : 8 ≤ j ∧ j < i
                · rw [if_pos h8, if_pos ⟨h8.1, by have := HI1.out; omega⟩]
                · rw [if_neg h8, if_neg (by have := HI1.out; omega)]⟩⟩⟩
          clear hz hfz
          go_wp2_with fail
          go_roundg (gk - 1)
          case measure => have := HIK.out; have := HIN.out; omega
          case rel => exact HNXT.out
      · have b2 : ((i : Int) < (N : Int)) = False := eq_false (by omega)
        have hZ : Z = sumS (zeroTo l i) := by
          cases hR : R with
          | true => rw [zeroTo_end l i (by have := HN.out; omega) (by omega)]; exact HZ.out.1 hR
          | false =>
            have hi8 : i = 8 := by
              rcases Nat.lt_or_ge 8 i with h | h
              · have := hrt h; rw [hR] at this; cases this
              · omega
            rw [hi8, zeroTo_eight]; exact HZ.out.2 hR
        have HZV := Lib.hid hZ
        clear hi hZ hik h8 hrt hbw hcs hin
        go_wp2_with fail
        refine (HSUM.out).mono ?_
        rintro e w5 ⟨rfl, hb5⟩
        rw [← HZV.out]
        have HB5 := Lib.hid (HB1.out.trans ((HBW.out.trans (hb5.mono HBW.out.size)).mono HB1.out.size))
        clear hb5
        go_wp2_with fail
        go_ret
        exact ⟨rfl, HB5.out⟩
end Go.Proofs.Ytijmponhkabeiaa
