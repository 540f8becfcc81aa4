/-
  Entries that point to one another and stay as they are; rows cut short; arrays of functions.
-/
import Derived.Test.YtkcmemldhbifdaaDoorGq
import Derived.Test.YtkcmemldhbifdaaDoorGc
namespace Go.Proofs.YtkcmemldhbifdaaDoor
open Go Go.RowKit
set_option linter.unusedVariables false
def Chain {α : Type} (T : Nat) (e : Enc α) (w : World) (ft : List Nat) : Option Addr → List α → Prop
  | A, [] => A = none
  | A, x :: xs => ∃ g B c, A = some ⟨g, 0, none⟩ ∧ g ∈ ft ∧ w.heap[g]? = some (.cells (Value.pointer B :: c).toArray T (0, 0)) ∧ e.rd w ft c x ∧ Chain T e w ft B xs
section
variable {α : Type} {T : Nat} {e : Enc α} {w w' : World} {ft ft' : List Nat}
theorem Chain.loc (hk : ∀ k ∈ ft, w'.heap[k]? = w.heap[k]?) : ∀ {A : Option Addr} {xs : List α}, Chain T e w ft A xs → Chain T e w' ft A xs
  | _, [], h => h
  | _, _ :: _, ⟨g, B, c, h1, h2, h3, h4, h5⟩ => ⟨g, B, c, h1, h2, (hk g h2).trans h3, e.loc hk h4, Chain.loc hk h5⟩
theorem Chain.mono (hk : ∀ k ∈ ft, k ∈ ft') : ∀ {A : Option Addr} {xs : List α}, Chain T e w ft A xs → Chain T e w ft' A xs
  | _, [], h => h
  | _, _ :: _, ⟨g, B, c, h1, h2, h3, h4, h5⟩ => ⟨g, B, c, h1, hk g h2, h3, e.mono hk h4, Chain.mono hk h5⟩
end
section
variable {P : Program} {bs : List Nat} {w0 w W : World} {es : List Ent} {o : Oper} {ρ : Operand → Value} {A : Option Addr}
theorem st_storeGP {T TB g : Nat} {x y : Operand} {cs ds cs' : List Value} (off : Nat) (ho : o.op = .store T x y) (hx : ρ x = .pointer (some ⟨g, off, none⟩)) (hy : ρ y = .agg ds.toArray) (hT : (P.info? T).map (·.size) = some ds.length) (h1 : ds.all (·.oneCell') = true)
    (h : St bs w0 w es) (i : Nat) (hi : es[i]? = some (boxE g cs TB)) (hl : off + ds.length ≤ cs.length) (hc : cs.take off ++ (ds ++ cs.drop (off + ds.length)) = cs') :
    ∃ w', (execOp ρ o).run P w = .ok .skip w' ∧ St bs w0 w' (es.set i (boxE g cs' TB)) := by
  subst hc
  have hg : w.heap[g]? = some (.cells cs.toArray TB (0, 0)) := h.get i hi
  have h3 : w.there g off ds.length := fun j hj => by
    have hcell : w.cell? ⟨g, off + j, none⟩ = cs.toArray[off + j]? := cell_of_row w g _ _ _ _ hg
    have hsz : off + j < cs.toArray.size := by simp; omega
    exact ⟨by rw [hcell, Array.getElem?_eq_getElem hsz]; rfl, frozen_none hg⟩
  have hr := run_storeAt_mid (P := P) w g off T ds.toArray (by simpa using h3) (by simpa using hT) (by simpa using h1)
  refine ⟨w.setCells g off ds, ?_, ?_⟩
  · unfold execOp
    rw [ho]
    simp only [hx, hy, Sem.run_bind, Sem.run_pure, Result.andThen_ok, hr]
  · refine h.turn i hi ⟨World.os_setCells _ _ _ _, tape_setCells _ _ _ _, World.output_setCells _ _ _ _⟩ (by rw [size_setCells]; exact Nat.le_refl _) (fun q hq hne => World.heap_setCells_other w g off ds hq (by simpa [boxE] using hne)) _ ?_ (fun q hq => .inl hq)
    show (w.setCells g off ds).heap[g]? = some _
    rw [heap_setCells ds w g off _ TB _ hg]
    have : putAll cs.toArray off ds = (cs.take off ++ (ds ++ cs.drop (off + ds.length))).toArray := by
      apply Array.ext'
      rw [putAll_list ds cs.toArray off (by simpa using hl)]
    rw [this]
end
end Go.Proofs.YtkcmemldhbifdaaDoor
