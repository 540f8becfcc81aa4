/-
  A listed variable that is an array of arrays of numbers: its cells.
-/
import Derived.Test.YtbdhgjaoojimmaaDoorGv
import Derived.Lib.LaidTab
import Derived.Lib.LaidU8T
import Derived.LaidMore
import Derived.LaidSub
import Derived.ProofKit
namespace Go.Proofs.YtbdhgjaoojimmaaDoor
open Go Go.RowKit
set_option linter.unusedVariables false
theorem chunks {α β : Type} {f : α → β} {m : Nat} : ∀ (zss : List (List α)) (cs : List β), cs.length = zss.length * m → (∀ i (h : i < zss.length), (cs.drop (i * m)).take m = zss[i].map f) → cs = zss.flatten.map f
  | [], cs, hl, _ => by simp at hl; simp [hl]
  | z :: zss, cs, hl, h => by
    have h0 := h 0 (by simp)
    have ih := chunks (m := m) zss (cs.drop m) (by simp [hl, Nat.add_mul]) (fun i hi => by
      have := h (i + 1) (by simp; omega)
      rw [List.drop_drop]
      simpa [Nat.add_mul, Nat.add_comm] using this)
    have e : cs.take m = z.map f := by simpa using h0
    rw [List.flatten_cons, List.map_append, ← ih, ← e, List.take_append_drop]
theorem cells_of_tab2 {H : Type} {enc : TypeId × Value → H} {P : Program} {w : World} {base : Nat} {sp : Nat → Bool} {held : Bool} {fuel : Nat} {t e1 e : TypeId} {n m : Nat} {k : IntKind} {cs : List Value} {zss : List (List Int)} {p : List MemPlace}
    (ht : P.underlying t = some (.array n e1)) (he1 : P.underlying e1 = some (.array m e)) (he : P.underlying e = some (.int k)) (hce : P.cellsOf e = 1) (hce1 : P.cellsOf e1 = m) (hct : P.cellsOf t = n * m)
    (h : DataW.trod enc P w base sp held fuel t cs = some (.agg (zss.map fun zs => Lib.tabData k zs), p)) : cs = zss.flatten.map fun z => Value.int k z := by
  cases fuel with
  | zero => simp [DataW.trod] at h
  | succ fuel =>
    simp only [DataW.trod, ht, hce1] at h
    split at h
    · rename_i hl
      obtain ⟨xs, hm, hx⟩ := Option.map_eq_some_iff.1 h
      have hxs : xs.map (·.1) = zss.map fun zs => (Lib.tabData k zs : DataW H) := by
        have := congrArg Prod.fst hx
        simpa using this
      have hxl : xs.length = n := by simpa using Lib.mapM_length hm
      have hzl : zss.length = n := by
        have := congrArg List.length hxs
        simp at this
        omega
      refine chunks (m := m) zss cs (by rw [hzl, ← hct]; exact hl) (fun i hi => ?_)
      obtain ⟨b, hb, hf⟩ := Lib.mapM_at hm i i (by simp [← hzl, hi])
      have h2 : (xs.map (·.1))[i]? = some b.1 := by simp [hb]
      rw [hxs] at h2
      simp only [List.getElem?_map, Option.map_eq_some_iff] at h2
      obtain ⟨z', hz', hb1⟩ := h2
      have hz2 : zss[i] = z' := by rw [List.getElem?_eq_getElem hi] at hz'; exact Option.some.inj hz'
      rw [hz2]
      have hb2 : b = (Lib.tabData k z', b.2) := by rw [hb1]
      rw [hb2] at hf
      exact Lib.cells_of_tab he1 he hce hce1 hf
    · cases h
/-- an index into an array -/
def gix (m : Nat) (i : Int) : Option Nat := if 0 ≤ i ∧ i < (m : Int) then some i.toNat else none
theorem gix_in {m j : Nat} {i : Int} (h : gix m i = some j) : i = (j : Int) ∧ j < m := by
  unfold gix at h
  split at h
  · obtain rfl := Option.some.inj h; omega
  · cases h
theorem run_ixarrO {P : Program} {w : World} {ρ : Operand → Value} {o : Oper} {T E s m g b i : Nat} {x y : Operand} {k : IntKind} {z : Int} (ho : o.op = .indexAddr T x y) (hx : ρ x = .pointer (some ⟨g, b, none⟩)) (hy : ρ y = .int k z) (hz : z = (i : Int)) (hT : P.underlying T = some (.array m E)) (hs : ∀ w, (Go.sizeOf E).run P w = .ok s w) (hi : i < m) :
    (execOp ρ o).run P w = .ok (.value (.pointer (some ⟨g, b + i * s, none⟩))) w := by
  subst hz
  unfold execOp
  rw [ho]
  simp only [hx, hy, Instr.indexAt, asIntOf, Sem.run_bind, Sem.run_pure, Result.andThen_ok, run_underlying hT, Instr.sureAddr]
  rw [if_pos ⟨by omega, by omega⟩]
  simp [hs, Result.andThen, add_flat]
end Go.Proofs.YtbdhgjaoojimmaaDoor
