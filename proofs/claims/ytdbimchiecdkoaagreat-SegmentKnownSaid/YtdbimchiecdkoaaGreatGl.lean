/-
  Entries that point to one another and stay as they are; rows cut short; arrays of functions.
-/
import Derived.Test.YtdbimchiecdkoaaGreatGq
import Derived.Test.YtdbimchiecdkoaaGreatGc
namespace Go.Proofs.YtdbimchiecdkoaaGreat
open Go Go.RowKit
set_option linter.unusedVariables false
def Chain {α : Type} (T : Nat) (e : Enc α) (w : World) (ft : List Nat) : Option Addr → List α → Prop
  | A, [] => A = none
  | A, x :: xs => ∃ g B c, A = some ⟨g, 0, none⟩ ∧ g ∈ ft ∧ w.heap[g]? = some (.cells (Value.pointer B :: c).toArray T (0, 0)) ∧ e.rd w ft c x ∧ Chain T e w ft B xs
section
variable {α : Type} {T : Nat} {e : Enc α} {w w' : World} {ft ft' : List Nat}
theorem Chain.loc (hk : ∀ k ∈ ft, w'.heap[k]? = w.heap[k]?) : ∀ {A : Option Addr} {xs : List α}, Chain T e w ft A xs → Chain T e w' ft A xs
  | _, [], h => h
  | _, _ :: _, ⟨g, B, c, h1, h2, h3, h4, h5⟩ => ⟨g, B, c, h1, h2, (hk g h2).trans h3, e.loc hk h4, Chain.loc hk h5⟩
theorem Chain.mono (hk : ∀ k ∈ ft, k ∈ ft') : ∀ {A : Option Addr} {xs : List α}, Chain T e w ft A xs → Chain T e w ft' A xs
  | _, [], h => h
  | _, _ :: _, ⟨g, B, c, h1, h2, h3, h4, h5⟩ => ⟨g, B, c, h1, hk g h2, h3, e.mono hk h4, Chain.mono hk h5⟩
end
section
variable {P : Program} {bs : List Nat} {w0 w W : World} {es : List Ent} {o : Oper} {ρ : Operand → Value} {A : Option Addr}
theorem run_ixarr {T E m g i : Nat} {x y : Operand} {k : IntKind} {z : Int} (ho : o.op = .indexAddr T x y) (hx : ρ x = .pointer (some ⟨g, 0, none⟩)) (hy : ρ y = .int k z) (hz : z = (i : Int)) (hT : P.underlying T = some (.array m E)) (hs : ∀ w, (Go.sizeOf E).run P w = .ok 1 w) (hi : i < m) :
    (execOp ρ o).run P w = .ok (.value (.pointer (some ⟨g, i, none⟩))) w := by
  subst hz
  unfold execOp
  rw [ho]
  simp only [hx, hy, Instr.indexAt, asIntOf, Sem.run_bind, Sem.run_pure, Result.andThen_ok, run_underlying hT, Instr.sureAddr]
  rw [if_pos ⟨by omega, by omega⟩]
  simp [hs, Result.andThen, add_flat]
end
end Go.Proofs.YtdbimchiecdkoaaGreat
