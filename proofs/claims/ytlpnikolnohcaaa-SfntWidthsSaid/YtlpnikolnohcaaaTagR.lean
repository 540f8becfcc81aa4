/-
  The document's names: less, isHead; powers; the next multiple of four.
-/
import Derived.Test.YtlpnikolnohcaaaNumR
namespace Go.Proofs.Ytlpnikolnohcaaa
open Go Go.RowKit

/-- is a name ahead of another one? -/
def lessL : List Int → List Int → Bool
  | x :: a, y :: b => if x = y then lessL a b else decide (x < y)
  | _, _ => false

/-- a name's value -/
def tagV (t : List Int) : Value := .agg (t.map fun x => Value.int .u8 x).toArray

def LsRel (w2 : World) (a b : List Int) (k : Nat) (vi : Value) (wr : World) : Prop := ∃ i : Nat, i + k = 4 ∧ vi = .int .i64 (i : Int) ∧ lessL a b = lessL (a.drop i) (b.drop i) ∧ Below w2.heap.size w2 wr

theorem less_step {a b : List Int} {i : Nat} (ha : i < a.length) (hb : i < b.length) (h : lessL a b = lessL (a.drop i) (b.drop i)) : (a[i] = b[i] → lessL a b = lessL (a.drop (i + 1)) (b.drop (i + 1))) ∧ (a[i] ≠ b[i] → lessL a b = decide (a[i] < b[i])) := by
  rw [List.drop_eq_getElem_cons ha, List.drop_eq_getElem_cons hb] at h
  constructor
  · intro he; rw [h, lessL, if_pos he]
  · intro he; rw [h, lessL, if_neg he]

set_option maxHeartbeats 4000000 in
set_option maxRecDepth 20000 in
theorem less_any (w : World) (a b : List Int) (ha : a.length = 4) (hb : b.length = 4) : Calls Try.prog 30 #[tagV a, tagV b] w fun e w' => e = .returned (.bool (lessL a b)) ∧ Below w.heap.size w w' := by
  obtain ⟨R, hR⟩ : ∃ R, R = lessL a b := ⟨_, rfl⟩
  rw [← hR]
  have HR := Lib.hid hR
  obtain ⟨va, hva⟩ : ∃ va, va = (a.map fun x => Value.int .u8 x).toArray := ⟨_, rfl⟩
  obtain ⟨vb, hvb⟩ : ∃ vb, vb = (b.map fun x => Value.int .u8 x).toArray := ⟨_, rfl⟩
  unfold tagV
  rw [← hva, ← hvb]
  obtain ⟨w1, hw1⟩ : ∃ w1, w.alloc (.cells va 39) = w1 := ⟨_, rfl⟩
  obtain ⟨w2, hw2⟩ : ∃ w2, w1.alloc (.cells vb 39) = w2 := ⟨_, rfl⟩
  have hs1 : w1.heap.size = w.heap.size + 1 := by rw [← hw1, heap_plus]
  have HB2 : Hid (Below w.heap.size w w2) := Lib.hid (by rw [← hw2, ← hw1]; exact below_alloc _ (below_alloc _ (Below.refl _ w)))
  have HCA : Hid (∀ wx, Below w2.heap.size w2 wx → ∀ i (h : i < a.length), wx.cell? ⟨w.heap.size, i, none⟩ = some (.int .u8 a[i])) := Lib.hid (fun wx hx i hi => by
    refine cellsAt_below ?_ hx
    rw [← hw2]
    refine cells_alloc _ ?_
    rw [← hw1, cell_of_row _ w.heap.size i _ _ _ (heap_alloc_new w _), hva]
    simp [hi])
  have HCB : Hid (∀ wx, Below w2.heap.size w2 wx → ∀ i (h : i < b.length), wx.cell? ⟨w1.heap.size, i, none⟩ = some (.int .u8 b[i])) := Lib.hid (fun wx hx i hi => by
    refine cellsAt_below ?_ hx
    rw [← hw2, cell_of_row _ w1.heap.size i _ _ _ (heap_alloc_new w1 _), hvb]
    simp [hi])
  have HLA := Lib.hid ha
  have HLB := Lib.hid hb
  clear ha hb hva hvb hR hs1
  go_enter Try.func30, Try.ntmps30
  go_wp2_with fail
  clear hw1 hw2
  obtain ⟨pa, hpa⟩ : ∃ pa, pa = w.heap.size := ⟨_, rfl⟩
  have HPA := Lib.hid hpa
  go_loopg [5] 4 (fun k vi wr => LsRel w2 a b k vi wr)
  case atStart => exact ⟨0, rfl, rfl, rfl, Below.refl _ _⟩
  case round =>
    obtain ⟨i, hik, rfl, hle, hbw⟩ := hrel
    have HB := Lib.hid hbw
    have HIK := Lib.hid hik
    by_cases hi : i = 4
    · have bi : ((i : Int) < 4) = False := eq_false (by omega)
      have HF : Hid (R = false) := Lib.hid (by
        rw [HR.out, hle, hi, List.drop_of_length_le (by have := HLA.out; omega)]; rfl)
      clear hi hik hle hbw hpa
      go_wp2_with fail
      go_ret
      exact ⟨by rw [HF.out]; rfl, HB2.out.trans (HB.out.mono HB2.out.size)⟩
    · have bi : ((i : Int) < 4) = True := eq_true (by omega)
      have i0 : (0 : Int) ≤ (i : Int) := Int.natCast_nonneg _
      have i4 : (i : Int) < 4 := by omega
      have hia : i < a.length := by have := HLA.out; omega
      have hib : i < b.length := by have := HLB.out; omega
      obtain ⟨h1, h2⟩ := less_step hia hib hle
      have ca := HCA.out wr hbw i hia
      have cb := HCB.out wr hbw i hib
      obtain ⟨x, hx⟩ : ∃ x, x = a[i] := ⟨_, rfl⟩
      obtain ⟨y, hy⟩ : ∃ y, y = b[i] := ⟨_, rfl⟩
      rw [← hx] at ca h1 h2
      rw [← hy] at cb h1 h2
      have HH1 := Lib.hid h1
      have HH2 := Lib.hid h2
      obtain ⟨i1, hi1⟩ : ∃ i1, i1 = i + 1 := ⟨_, rfl⟩
      have q1 : IntKind.i64.wrap ((i : Int) + 1) = (i1 : Int) := by rw [IntKind.wrap_i64]; omega
      have HI1 := Lib.hid hi1
      have HIN := Lib.hid hi
      clear hi hik hle hbw hx hy h1 h2 hi1 hia hib hpa
      go_upto_region 4 with fail
      go_cut [16] from 6 to 23 (fun s wx => s = .bool (x != y) ∧ Below wr.heap.size wr wx)
      case first =>
        go_region_held3 (fun w' => w'.cell? ⟨w.heap.size, i, none⟩ = some (.int .u8 x) ∧ w'.cell? ⟨w1.heap.size, i, none⟩ = some (.int .u8 y) ∧ Below wr.heap.size wr w') (first | assumption | (go_split_ands; exact ⟨ca, cb, (Below.refl _ wr).drew⟩) | (go_split_ands; exact ⟨by assumption, by assumption, by assumption⟩)) (fail)
        all_goals (go_wp2_with fail; go_meet; go_split_ands; exact ⟨rfl, by assumption⟩)
      case rest =>
        obtain ⟨rfl, hb5⟩ := hcut
        have HB5 := Lib.hid (HB.out.trans (hb5.mono HB.out.size))
        have ca5 := cellsAt_below ca hb5
        have cb5 := cellsAt_below cb hb5
        clear hb5 ca cb
        by_cases hxy : x = y
        · have bx : (x != y) = false := by simp [hxy]
          have HNX : Hid (lessL a b = lessL (a.drop i1) (b.drop i1)) := Lib.hid (by rw [HI1.out]; exact HH1.out hxy)
          rw [bx]
          clear hxy bx ca5 cb5
          go_wp2_with fail
          go_roundg (gk - 1)
          case measure => have := HIK.out; have := HIN.out; omega
          case rel => exact ⟨i1, by have := HIK.out; have := HIN.out; have := HI1.out; omega, by first | rfl | exact congrArg _ (by omega), HNX.out, HB5.out⟩
        · have bx : (x != y) = true := by simp [hxy]
          have HV : Hid (R = decide (x < y)) := Lib.hid (by rw [HR.out]; exact HH2.out hxy)
          rw [bx]
          clear hxy bx
          go_wp2_with fail
          go_region_held3 (fun w' => w'.cell? ⟨w.heap.size, i, none⟩ = some (.int .u8 x) ∧ w'.cell? ⟨w1.heap.size, i, none⟩ = some (.int .u8 y) ∧ Below wc.heap.size wc w') (first | assumption | (go_split_ands; exact ⟨ca5, cb5, (Below.refl _ wc).drew⟩) | (go_split_ands; exact ⟨by assumption, by assumption, by assumption⟩)) (fail)
          all_goals go_wp2_with fail
          all_goals go_split_ands
          go_ret
          exact ⟨by rw [HV.out]; rfl, HB2.out.trans ((HB5.out.trans ((show Below wc.heap.size wc _ by assumption).mono HB5.out.size)).mono HB2.out.size)⟩
end Go.Proofs.Ytlpnikolnohcaaa
