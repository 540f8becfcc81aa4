/-
  The document's sum of a table.
-/
import Derived.Test.YtlpnikolnohcaaaTagR
import Derived.Test.YtlpnikolnohcaaaSum
import Derived.Stop.BytesEq
namespace Go.Proofs.Ytlpnikolnohcaaa
open Go Go.RowKit

/-- the name head -/
def headT : List Int := [104, 101, 97, 100]

theorem sizeU8 (w : World) : (Go.sizeOf 5).run Try.prog w = .ok 1 w := by kernel_rfl

theorem tag_u8 (t : List Int) (h : AllB t) : ∃ us : List UInt8, t = us.map fun u => ((u.toNat : Nat) : Int) := by
  refine ⟨t.map fun x => UInt8.ofNat x.toNat, ?_⟩
  rw [List.map_map]
  conv => lhs; rw [← List.map_id t]
  apply List.map_congr_left
  intro x hx
  have hb := h x hx
  simp
  omega

theorem tag_cells (us : List UInt8) : tagV (us.map fun u => ((u.toNat : Nat) : Int)) = .agg (us.map Extern.Stop.cell).toArray := by
  unfold tagV
  rw [List.map_map]
  rfl

/-- names compared -/
theorem eq_tags (W : World) (a b : List Int) (ha : AllB a) (hb : AllB b) (la : a.length = 4) (lb : b.length = 4) : (binOp BinOp.eql 39 (tagV a) (tagV b)).run Try.prog W = .ok (.bool (decide (a = b))) W := by
  obtain ⟨us, rfl⟩ := tag_u8 a ha
  obtain ⟨vs, rfl⟩ := tag_u8 b hb
  rw [tag_cells, tag_cells, run_eql_bytes (P := Try.prog) W 39 5 4 Try.underlying39 Try.underlying5 sizeU8 us vs (by simpa using la) (by simpa using lb)]
  congr 2
  rw [Bool.eq_iff_iff, beq_iff_eq, decide_eq_true_eq]
  constructor
  · intro h; rw [h]
  · intro h
    have hinj : ∀ x y : UInt8, ((x.toNat : Nat) : Int) = ((y.toNat : Nat) : Int) → x = y := fun x y hxy => UInt8.toNat_inj.1 (by omega)
    exact (List.map_inj_right hinj).1 h

theorem headT_b : AllB headT := fun x hx => by simp [headT] at hx; omega

set_option maxRecDepth 20000 in
theorem isHead_any (w : World) (t : List Int) (hb : AllB t) (ht : t.length = 4) : Calls Try.prog 33 #[tagV t] w fun e w' => e = .returned (.bool (decide (t = headT))) ∧ Below w.heap.size w w' := by
  have heq := fun W => eq_tags W t headT hb headT_b ht rfl
  obtain ⟨a, b, c, d, rfl⟩ : ∃ a b c d, t = [a, b, c, d] := by
    match t, ht with
    | [a, b, c, d], _ => exact ⟨a, b, c, d, rfl⟩
  obtain ⟨R, hR⟩ : ∃ R, R = decide ([a, b, c, d] = headT) := ⟨_, rfl⟩
  rw [← hR] at heq ⊢
  have heq' : ∀ W, (binOp BinOp.eql 39 (.agg #[.int .u8 a, .int .u8 b, .int .u8 c, .int .u8 d]) (.agg #[.int .u8 104, .int .u8 101, .int .u8 97, .int .u8 100])).run Try.prog W = .ok (.bool R) W := heq
  show Calls Try.prog 33 #[.agg #[.int .u8 a, .int .u8 b, .int .u8 c, .int .u8 d]] w _
  clear hR ht hb heq
  go_enter Try.func33, Try.ntmps33
  go_wp2_with fail
  go_ret
  exact ⟨rfl, below_alloc _ (Below.refl _ w)⟩
end Go.Proofs.Ytlpnikolnohcaaa
