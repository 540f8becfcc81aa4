/-
  Slices of numbers, as the walks ask them.
-/
import Derived.Test.YtkcmemldhbifdaaDoorProg
import Derived.WalkKit
import Derived.KernelRfl
import Derived.Below
import Derived.WalkLawsBesides
import Derived.WalkSpells
import Derived.WalkMore
import Derived.Deep.LoopGhost
import Derived.Deep.CutRange
import Derived.Deep.RegionHeld3
import Derived.Lib.Hide
import Derived.ProofKit
import Derived.Laws.AppendOwn
import Derived.Laws.AppendOwnNone
import Derived.Laws.BytesArg
import Derived.Maps.AppendAt
namespace Go.Proofs.YtkcmemldhbifdaaDoor
open Go Go.RowKit
theorem add_flat (b o i : Nat) : (⟨b, o, none⟩ : Addr).add i = ⟨b, o + i, none⟩ := by unfold Addr.add; split <;> simp_all
theorem heap_more (w : World) (o : Obj) : w.heap.size < (w.alloc o).heap.size := by show w.heap.size < (w.heap.push o).size; simp
theorem own_row_lt {w : World} {k : Nat} {o : Obj} (h : w.heap[k]? = some o) : k < w.heap.size := by
  rcases Nat.lt_or_ge k w.heap.size with h' | h'
  · exact h'
  · rw [Array.getElem?_eq_none h'] at h; cases h
def NumZ (k : IntKind) (w : World) (v : Value) (l : List Int) : Prop :=
  ∃ A c, v = .slice A l.length c ∧ l.length ≤ c ∧ c ≤ 9223372036854775807 ∧ (l ≠ [] → ∃ g off, A = some ⟨g, off, none⟩ ∧ g < w.heap.size ∧ ∀ (j : Nat) (h : j < l.length), w.cell? ⟨g, off + j, none⟩ = some (.int k l[j]))
theorem NumZ.below {k : IntKind} {w w' : World} {v : Value} {l : List Int} (h : NumZ k w v l) (hb : Below w.heap.size w w') : NumZ k w' v l := by
  obtain ⟨A, c, e, hc, hc2, hx⟩ := h
  refine ⟨A, c, e, hc, hc2, fun hne => ?_⟩
  obtain ⟨g, off, hA, hg, hcell⟩ := hx hne
  have := hb.size
  exact ⟨g, off, hA, by omega, fun j hj => by rw [hb.cell (by exact hg)]; exact hcell j hj⟩
theorem NumZ.alloc {k : IntKind} {w : World} {v : Value} {l : List Int} (o : Obj) (h : NumZ k w v l) : NumZ k (w.alloc o) v l := h.below ((Below.refl _ w).alloc (Nat.le_refl _) o)
theorem NumZ.cells {k : IntKind} {w : World} {A : Option Addr} {n c : Nat} {l : List Int} (h : NumZ k w (.slice A n c) l) (hne : l ≠ []) : ∃ g off, A = some ⟨g, off, none⟩ ∧ g < w.heap.size ∧ ∀ (j : Nat) (h : j < l.length), w.cell? ⟨g, off + j, none⟩ = some (.int k l[j]) := by
  obtain ⟨A', c', e, _, _, hx⟩ := h
  injection e with e1 e2 e3
  subst e1
  exact hx hne
theorem NumZ.nil (k : IntKind) (w : World) : NumZ k w (.slice none 0 0) [] := ⟨none, 0, rfl, Nat.le_refl _, by decide, fun h => absurd rfl h⟩
theorem NumZ.piece {k : IntKind} {w : World} {g off c : Nat} {l : List Int} (hc : l.length ≤ c) (hc2 : c ≤ 9223372036854775807) (hg : g < w.heap.size) (hcell : ∀ (j : Nat) (h : j < l.length), w.cell? ⟨g, off + j, none⟩ = some (.int k l[j])) (f q : Nat) (hfq : f ≤ q) (hq : q ≤ l.length) :
    NumZ k w (.slice (some ⟨g, off + f, none⟩) (q - f) (c - f)) ((l.drop f).take (q - f)) := by
  have hpl : ((l.drop f).take (q - f)).length = q - f := by simp; omega
  refine ⟨some ⟨g, off + f, none⟩, c - f, by rw [hpl], by omega, by omega, fun _ => ⟨g, off + f, rfl, hg, fun j hj => ?_⟩⟩
  rw [hpl] at hj
  have hj2 : f + j < l.length := by omega
  rw [Nat.add_assoc, hcell (f + j) hj2]
  simp
def OwnB (B : Nat) (w : World) (v : Value) (l : List Int) : Prop := w.ownsRow B 5 1 v l.length (l.map fun d : Int => Value.int .u8 d)
theorem OwnB.nil (B : Nat) (w : World) : OwnB B w (.slice none 0 0) [] := World.ownsRow_nil _ _ _ _
theorem OwnB.read {B : Nat} {w : World} {v : Value} {l : List Int} (h : OwnB B w v l) : NumZ .u8 w v l := by
  have h1 : w.ownsRow B 5 1 v l.length (l.map fun d : Int => Value.int .u8 d) := h
  rcases h1.2 with ⟨rfl, h0⟩ | ⟨g, cap, cur, rfl, hb, hg, hc, hm, hs, ht⟩
  · exact ⟨none, 0, by rw [h0], by omega, by omega, fun hne => absurd (List.length_eq_zero_iff.1 h0) hne⟩
  · refine ⟨some ⟨g, 0, none⟩, cap, rfl, hc, by unfold maxLen at hm; omega, fun _ => ⟨g, 0, rfl, own_row_lt hg, fun j hj => ?_⟩⟩
    have := h1.cells (g := g) rfl j (.int .u8 l[j]) (by simp [hj])
    rwa [add_flat] at this
theorem OwnB.nn {B : Nat} {w : World} {v : Value} {l : List Int} (h : OwnB B w v l) : ∀ n c, v = .slice none n c → n = 0 ∧ c = 0 := by
  have h1 : w.ownsRow B 5 1 v l.length (l.map fun d : Int => Value.int .u8 d) := h
  intro n c hv
  rcases h1.2 with ⟨rfl, h0⟩ | ⟨g, cap, cur, rfl, hb, hg, rest⟩
  · injection hv with _ e1 e2
    exact ⟨e1.symm, e2.symm⟩
  · cases hv
theorem conv_b (w : World) (v : Value) (l : List Int) (h : NumZ .u8 w v l) : (convert 24 9 v).run Tryd.prog w = .ok (.string (strOfNums l)) w := by
  obtain ⟨A, c, rfl, hc, _, hx⟩ := h
  by_cases hne : l = []
  · subst hne
    cases A with
    | none => rw [run_convert_bytes_nil (P := Tryd.prog) w 24 5 Tryd.underlying24 Tryd.underlying5 _ _ _ Tryd.underlying9]; rfl
    | some ad =>
      rw [run_convert_bytes_string w 24 9 5 _ _ _ Tryd.underlying24 Tryd.underlying5 Tryd.underlying9]
      show (Conv.bytesToString (.slice (some ad) 0 c)).run Tryd.prog w = _
      rw [run_bytesToString w _ 0 c [] (by simpa using run_loadCells_list (P := Tryd.prog) w ad [] (fun j v hj => by cases hj))]
      rfl
  · obtain ⟨g, off, rfl, hg, hcell⟩ := hx hne
    exact run_convert_bytes_arg (P := Tryd.prog) w 24 5 Tryd.underlying24 Tryd.underlying5 g off _ c l rfl (fun i hi => by rw [hcell i hi]; simp [hi]) _ Tryd.underlying9
end Go.Proofs.YtkcmemldhbifdaaDoor
