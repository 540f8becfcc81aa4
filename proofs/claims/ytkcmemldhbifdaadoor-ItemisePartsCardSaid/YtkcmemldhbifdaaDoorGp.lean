/-
  What is lent to a call; how a call gives up.
-/
import Derived.Test.YtkcmemldhbifdaaDoorGn
namespace Go.Proofs.YtkcmemldhbifdaaDoor
open Go Go.RowKit
set_option linter.unusedVariables false
def foots (es : List Ent) : List Nat := (es.map Ent.foot).flatten
section
variable {bs : List Nat} {w0 w w' : World} {A B es : List Ent}
theorem mem_foots {k : Nat} {es : List Ent} : k ∈ foots es ↔ ∃ e ∈ es, k ∈ e.foot := by
  simp only [foots, List.mem_flatten, List.mem_map]
  constructor
  · rintro ⟨l, ⟨e, he, rfl⟩, hk⟩; exact ⟨e, he, hk⟩
  · rintro ⟨e, he, hk⟩; exact ⟨_, ⟨e, he, rfl⟩, hk⟩
theorem St.part (h : St bs w0 w (A ++ B)) : St (foots A) w w A := by
  refine ⟨But.refl _ _ _, fun e he => ?_, (List.pairwise_append.1 h.apart).1⟩
  obtain ⟨h1, h2⟩ := h.holds e (by simp [he])
  exact ⟨h1, fun k hk => ⟨.inr (mem_foots.2 ⟨e, he, hk⟩), (h2 k hk).2⟩⟩
theorem St.lendN (h : St bs w0 w (A ++ B)) (es' : List Ent) (h' : St (foots A) w w' es') : St bs w0 w' (B ++ es') := by
  have hp := List.pairwise_append.1 h.apart
  have fA : ∀ k ∈ foots A, (w0.heap.size ≤ k ∨ k ∈ bs) ∧ k < w.heap.size := fun k hk => by
    obtain ⟨e, he, hk⟩ := mem_foots.1 hk
    exact (h.holds e (by simp [he])).2 k hk
  have apart : ∀ e ∈ B, ∀ k ∈ e.foot, k ∉ foots A := fun e he k hk hk2 => by
    obtain ⟨a, ha, hka⟩ := mem_foots.1 hk2
    exact hp.2.2 a ha e he k hka hk
  refine ⟨h.but.trans (h'.but.mono h.size (fun k hk hm => ?_)), fun x hx => ?_, List.pairwise_append.2 ⟨hp.2.1, h'.apart, fun a ha b hb k hk hk2 => ?_⟩⟩
  · rcases (fA k hm).1 with h1 | h1
    · omega
    · exact h1
  · rcases List.mem_append.1 hx with hxa | hxb
    · obtain ⟨h1, h2⟩ := h.holds x (by simp [hxa])
      exact ⟨x.loc w w' (fun k hk => h'.but.block k (h2 k hk).2 (apart x hxa k hk)) h1, fun k hk => ⟨(h2 k hk).1, Nat.lt_of_lt_of_le (h2 k hk).2 h'.size⟩⟩
    · obtain ⟨h1, h2⟩ := h'.holds x hxb
      refine ⟨h1, fun k hk => ⟨?_, (h2 k hk).2⟩⟩
      rcases (h2 k hk).1 with h3 | h3
      · exact .inl (Nat.le_trans h.size h3)
      · exact (fA k h3).1
  · have h1 := ((h.holds a (by simp [ha])).2 k hk).2
    rcases ((h'.holds b hb).2 k hk2).1 with h3 | h3
    · omega
    · exact apart a ha k hk h3
theorem St.outA (h : St bs w0 w (A ++ B)) {k : Nat} (h1 : k < w0.heap.size) (h2 : k ∉ bs) : k ∉ foots A := fun hm => by
  obtain ⟨e, he, hk⟩ := mem_foots.1 hm
  rcases ((h.holds e (by simp [he])).2 k hk).1 with h3 | h3
  · omega
  · exact h2 h3
theorem St.outB (h : St bs w0 w (A ++ B)) {e : Ent} {i k : Nat} (hi : B[i]? = some e) (hk : k ∈ e.foot) : k ∉ foots A := fun hm => by
  obtain ⟨a, ha, hka⟩ := mem_foots.1 hm
  exact (List.pairwise_append.1 h.apart).2.2 a ha e (List.mem_of_getElem? hi) k hka hk
theorem St.vwA (h : St bs w0 w (A ++ B)) {k : IntKind} {X : Option Addr} {c : Nat} {l : List Int} (hv : Vw bs k w0 X c l) : Vw (foots A) k w X c l := by
  refine ⟨h.view hv, hv.nn, fun p hp hne => ?_⟩
  obtain ⟨g, off, e, hg, _⟩ := hv.num.cells hne
  rw [hp] at e
  injection e with e
  subst e
  exact h.outA hg (hv.off _ hp hne)
theorem St.vwB (h : St bs w0 w (A ++ B)) {k : IntKind} {T : Nat} {X : Option Addr} {c : Nat} {l : List Int} (i : Nat) (hi : B[i]? = some (rowE k T X c l)) : Vw (foots A) k w X c l := by
  have hB : (rowE k T X c l).holds w := (h.holds _ (List.mem_append_right _ (List.mem_of_getElem? hi))).1
  refine ⟨(rowE_read hB).1, (rowE_read hB).2, fun p hp _ => ?_⟩
  subst hp
  exact h.outB hi (by simp [rowE, rowG, Value.ownBlock])
end
end Go.Proofs.YtkcmemldhbifdaaDoor
