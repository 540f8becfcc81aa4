/-
  Names ([4]byte), compared.
-/
import Derived.Test.YtcleaepcjbfmhaaGp
import Derived.Laws.StructEq
import Derived.Stop.BytesEq
namespace Go.Proofs.Ytcleaepcjbfmhaa
open Go Go.RowKit
set_option linter.unusedVariables false

def AllB (l : List Int) : Prop := ∀ x ∈ l, 0 ≤ x ∧ x ≤ 255
def tagV (t : List Int) : Value := .agg (t.map fun x => Value.int .u8 x).toArray
theorem sizeU8 (w : World) : (Go.sizeOf 5).run Try.prog w = .ok 1 w := by kernel_rfl

theorem tag_u8 (t : List Int) (h : AllB t) : ∃ us : List UInt8, t = us.map fun u => ((u.toNat : Nat) : Int) := by
  refine ⟨t.map fun x => UInt8.ofNat x.toNat, ?_⟩
  rw [List.map_map]
  conv => lhs; rw [← List.map_id t]
  apply List.map_congr_left
  intro x hx
  have hb := h x hx
  simp
  omega

theorem tag_cells (us : List UInt8) : tagV (us.map fun u => ((u.toNat : Nat) : Int)) = .agg (us.map Extern.Stop.cell).toArray := by
  unfold tagV
  rw [List.map_map]
  rfl

/-- names compared -/
theorem eq_tags (W : World) (a b : List Int) (ha : AllB a) (hb : AllB b) (la : a.length = 4) (lb : b.length = 4) : (binOp BinOp.eql 32 (tagV a) (tagV b)).run Try.prog W = .ok (.bool (decide (a = b))) W := by
  obtain ⟨us, rfl⟩ := tag_u8 a ha
  obtain ⟨vs, rfl⟩ := tag_u8 b hb
  rw [tag_cells, tag_cells, run_eql_bytes (P := Try.prog) W 32 5 4 Try.underlying32 Try.underlying5 sizeU8 us vs (by simpa using la) (by simpa using lb)]
  congr 2
  rw [Bool.eq_iff_iff, beq_iff_eq, decide_eq_true_eq]
  constructor
  · intro h; rw [h]
  · intro h
    have hinj : ∀ x y : UInt8, ((x.toNat : Nat) : Int) = ((y.toNat : Nat) : Int) → x = y := fun x y hxy => UInt8.toNat_inj.1 (by omega)
    exact (List.map_inj_right hinj).1 h

abbrev Tg := Int × Int × Int × Int
def tagL (t : Tg) : List Int := [t.1, t.2.1, t.2.2.1, t.2.2.2]
def inB (t : Tg) : Prop := (0 ≤ t.1 ∧ t.1 ≤ 255) ∧ (0 ≤ t.2.1 ∧ t.2.1 ≤ 255) ∧ (0 ≤ t.2.2.1 ∧ t.2.2.1 ≤ 255) ∧ (0 ≤ t.2.2.2 ∧ t.2.2.2 ≤ 255)
instance (t : Tg) : Decidable (inB t) := by unfold inB; infer_instance
def inBs (l : List Int) : Prop := ∀ x ∈ l, 0 ≤ x ∧ x ≤ 255
instance (l : List Int) : Decidable (inBs l) := by unfold inBs; infer_instance

theorem tagL_b {t : Tg} (h : inB t) : AllB (tagL t) := by
  intro x hx
  obtain ⟨h1, h2, h3, h4⟩ := h
  simp [tagL] at hx
  rcases hx with rfl | rfl | rfl | rfl <;> assumption
theorem tagL_len (t : Tg) : (tagL t).length = 4 := rfl

/-- two names, compared -/
def eqTag (x y : Tg) : Option Bool := if inB x ∧ inB y then some (decide (tagL x = tagL y)) else none

section
variable {w : World} {ρ : Operand → Value} {o : Oper}
set_option maxRecDepth 100000 in
theorem run_eqin {x y : Tg} {r : Bool} (hr : eqTag x y = some r) :
    (Op.equalIn 10000 32 (.agg #[.int .u8 x.1, .int .u8 x.2.1, .int .u8 x.2.2.1, .int .u8 x.2.2.2]) (.agg #[.int .u8 y.1, .int .u8 y.2.1, .int .u8 y.2.2.1, .int .u8 y.2.2.2])).run Try.prog w = .ok r w := by
  unfold eqTag at hr
  split at hr
  · rename_i h
    have h1 := eq_tags w (tagL x) (tagL y) (tagL_b h.1) (tagL_b h.2) rfl rfl
    rw [show tagV (tagL x) = .agg #[.int .u8 x.1, .int .u8 x.2.1, .int .u8 x.2.2.1, .int .u8 x.2.2.2] from rfl, show tagV (tagL y) = .agg #[.int .u8 y.1, .int .u8 y.2.1, .int .u8 y.2.2.1, .int .u8 y.2.2.2] from rfl, run_eql_struct, Option.some.inj hr] at h1
    cases hq : (Op.equalIn 10000 32 (.agg #[.int .u8 x.1, .int .u8 x.2.1, .int .u8 x.2.2.1, .int .u8 x.2.2.2]) (.agg #[.int .u8 y.1, .int .u8 y.2.1, .int .u8 y.2.2.1, .int .u8 y.2.2.2])).run Try.prog w with
    | ok b w' =>
      rw [hq] at h1
      simp only [Result.andThen_ok] at h1
      injection h1 with h2 h3
      injection h2 with h4
      rw [h4, h3]
    | halt z w' => rw [hq] at h1; simp [Result.andThen] at h1
  · cases hr

set_option maxRecDepth 100000 in
theorem run_eqTag {T' : Nat} {a b : Operand} {x y : Tg} {r : Bool} (ho : o.op = .binOp .eql 32 a b T') (hx : ρ a = .agg #[.int .u8 x.1, .int .u8 x.2.1, .int .u8 x.2.2.1, .int .u8 x.2.2.2]) (hy : ρ b = .agg #[.int .u8 y.1, .int .u8 y.2.1, .int .u8 y.2.2.1, .int .u8 y.2.2.2])
    (hr : eqTag x y = some r) : (execOp ρ o).run Try.prog w = .ok (.value (.bool r)) w := by
  have hg : Try.prog.eqGuardType Try.prog.depth 32 = false := by kernel_rfl
  unfold execOp
  rw [ho]
  simp only [hx, hy, Sem.run_bind, run_eqGuard_agg w _ _ _ _ _ _ hg, Result.andThen_ok, run_eql_struct, run_eqin hr, Sem.run_pure]

set_option maxRecDepth 100000 in
theorem run_neTag {T' : Nat} {a b : Operand} {x y : Tg} {r : Bool} (ho : o.op = .binOp .neq 32 a b T') (hx : ρ a = .agg #[.int .u8 x.1, .int .u8 x.2.1, .int .u8 x.2.2.1, .int .u8 x.2.2.2]) (hy : ρ b = .agg #[.int .u8 y.1, .int .u8 y.2.1, .int .u8 y.2.2.1, .int .u8 y.2.2.2])
    (hr : eqTag x y = some r) : (execOp ρ o).run Try.prog w = .ok (.value (.bool (!r))) w := by
  have hg : Try.prog.eqGuardType Try.prog.depth 32 = false := by kernel_rfl
  unfold execOp
  rw [ho]
  simp only [hx, hy, Sem.run_bind, run_eqGuard_agg w _ _ _ _ _ _ hg, Result.andThen_ok, run_neq_struct, run_eqin hr, Sem.run_pure]
end

def neTag (x y : Tg) : Option Bool := (eqTag x y).map (!·)
theorem run_neTag' {w : World} {ρ : Operand → Value} {o : Oper} {T' : Nat} {a b : Operand} {x y : Tg} {r : Bool} (ho : o.op = .binOp .neq 32 a b T') (hx : ρ a = .agg #[.int .u8 x.1, .int .u8 x.2.1, .int .u8 x.2.2.1, .int .u8 x.2.2.2]) (hy : ρ b = .agg #[.int .u8 y.1, .int .u8 y.2.1, .int .u8 y.2.2.1, .int .u8 y.2.2.2])
    (hr : neTag x y = some r) : (execOp ρ o).run Try.prog w = .ok (.value (.bool r)) w := by
  unfold neTag at hr
  obtain ⟨r0, h0, h1⟩ := Option.map_eq_some_iff.1 hr
  rw [← h1]
  exact run_neTag ho hx hy h0

end Go.Proofs.Ytcleaepcjbfmhaa
