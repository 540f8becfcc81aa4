/-
  slices.Compact of a row of one's own.
-/
import Derived.Test.YtgjlpiljacecpaaZF
import Derived.Test.YtgjlpiljacecpaaShelf
import Derived.ProofKit
namespace Go.Proofs.Ytgjlpiljacecpaa
open Go Go.RowKit
set_option linter.unusedVariables false
set_option linter.unusedSectionVars false
set_option linter.unusedSimpArgs false
def cpt (l : List Int) : List Int := Lib.compactUpTo l.toArray l.toArray.size
theorem cpt_le (l : List Int) : (cpt l).length ≤ l.length := by
  unfold cpt Lib.compactUpTo
  rw [List.length_map]
  exact Nat.le_trans (List.length_filter_le ..) (by simp)
theorem held {w : World} {g : Nat} {cur : Array Value} {e : TypeId} {k : IntKind} {l : List Int} (hb : w.heap[g]? = some (.cells cur e (0, 0))) (ht : cur.toList.take l.length = l.map (Value.int k)) : Go.Sort.Holds (Value.int k) w g 0 l.toArray := by
  intro j hj
  have hj' : j < l.length := by simpa using hj
  refine ⟨?_, by simp [World.frozen?, hb]⟩
  have h1 : (cur.toList.take l.length)[j]? = (l.map (Value.int k))[j]? := by rw [ht]
  rw [List.getElem?_take_of_lt hj'] at h1
  simp only [World.cell?, hb, Nat.zero_add]
  simp only [Option.isSome_none, Bool.false_eq_true, if_false]
  rw [← Array.getElem?_toList, h1]
  simp [hj']
theorem put_heap {w : World} {g n : Nat} {k : IntKind} {cur : Array Value} {e : TypeId} {fr : Nat × Nat} (d : Array Int) (hb : w.heap[g]? = some (.cells cur e fr)) :
    (Go.Sort.putRow (Value.int k) (Go.Sort.ahead w n) g 0 d).heap[g]? = some (.cells (Go.Sort.putCells (Value.int k) 0 d cur) e fr) := by
  simp [Go.Sort.putRow, Go.Sort.mapBlock, Go.Sort.ahead, Array.getElem?_modify, hb, Go.Sort.onCells]
theorem put_else {w : World} {g n : Nat} {k : IntKind} (d : Array Int) {j : Nat} (hj : j ≠ g) : (Go.Sort.putRow (Value.int k) (Go.Sort.ahead w n) g 0 d).heap[j]? = w.heap[j]? := by
  have : g ≠ j := fun e => hj e.symm
  simp [Go.Sort.putRow, Go.Sort.mapBlock, Go.Sort.ahead, Array.getElem?_modify, this]
theorem put_take (k : IntKind) (cur : Array Value) (r z : List Int) (h : r.length ≤ cur.size) : (Go.Sort.putCells (Value.int k) 0 (r ++ z).toArray cur).toList.take r.length = r.map (Value.int k) := by
  apply List.ext_getElem?
  intro j
  by_cases hj : j < r.length
  · rw [List.getElem?_take_of_lt hj, Array.getElem?_toList]
    simp [Go.Sort.putCells, hj, show j < cur.size by omega, show j < r.length + z.length by omega]
  · rw [List.getElem?_take_eq_none (by omega), List.getElem?_eq_none (by simp; omega)]
theorem compact_some (g c : Nat) (l : List Int) (w0 : World) (hl : St (foots [rowE .u16 31 (some ⟨g, 0, none⟩) c l]) w0 w0 [rowE .u16 31 (some ⟨g, 0, none⟩) c l]) :
    Calls Try.prog 85 #[.slice (some ⟨g, 0, none⟩) l.length c] w0 fun e w => e = .returned (.slice (some ⟨g, 0, none⟩) (cpt l).length c) ∧ St (foots [rowE .u16 31 (some ⟨g, 0, none⟩) c l]) w0 w [rowE .u16 31 (some ⟨g, 0, none⟩) c (cpt l)] := by
  have hr : w0.ownsRow 0 31 1 (.slice (some ⟨g, 0, none⟩) l.length c) l.length (l.map (Value.int .u16)) := (hl.holds (rowE .u16 31 (some ⟨g, 0, none⟩) c l) (List.mem_singleton.2 rfl)).1
  rcases hr.2 with ⟨h, _⟩ | ⟨g', cap, cur, e, hB, hb, h1, h2, h3, h4⟩
  · cases h
  cases e
  rw [Nat.mul_one] at h4
  have hsz : l.toArray.size = l.length := by simp
  have hmax : c ≤ 9223372036854775807 := by unfold maxLen at h2; omega
  have hC := Try.slices_Compact (Value.int .u16) (fun _ => rfl) (EqlAt.intD _ _ .u16) (NeqAt.intD _ _ .u16) 0 Try.zeroValue31 g 0 c l.toArray w0 (held hb h4) (by rw [hsz]; omega) (by rw [hsz]; exact h1)
  rw [hsz] at hC
  refine hC.mono ?_
  rintro e w ⟨rfl, q, rfl⟩
  refine ⟨by unfold cpt; rw [hsz], ?_⟩
  have hle := cpt_le l
  have hg : g < w0.heap.size := (Array.getElem?_eq_some_iff.1 hb).1
  have hz : (Go.Sort.putRow (Value.int .u16) (Go.Sort.ahead w0 q) g 0 (Lib.compactUpTo l.toArray l.length ++ List.replicate (l.length - (Lib.compactUpTo l.toArray l.length).length) 0).toArray).heap.size = w0.heap.size := by
    simp [Go.Sort.putRow, Go.Sort.mapBlock, Go.Sort.ahead]
  have hcp : Lib.compactUpTo l.toArray l.length = cpt l := by unfold cpt; rw [hsz]
  rw [hcp] at hz ⊢
  refine ⟨⟨rfl, rfl, rfl, by rw [hz]; exact Nat.le_refl _, fun k hk hn => put_else _ (fun e => hn (by subst e; simp [foots, rowE, rowG, Value.ownBlock]))⟩, ?_, List.pairwise_singleton _ _⟩
  intro e he
  obtain rfl := List.mem_singleton.1 he
  refine ⟨?_, fun k hk => ?_⟩
  · show World.ownsRow _ 0 31 1 (.slice (some ⟨g, 0, none⟩) (cpt l).length c) (cpt l).length ((cpt l).map (Value.int .u16))
    exact ⟨by simp, .inr ⟨g, c, _, rfl, Nat.zero_le _, put_heap _ hb, by omega, h2, by simpa [Go.Sort.putCells] using h3, by rw [Nat.mul_one]; exact put_take .u16 cur (cpt l) _ (by omega)⟩⟩
  · have : k = g := by simpa [rowE, rowG, Value.ownBlock] using hk
    subst this
    exact ⟨.inr (by simp [foots, rowE, rowG, Value.ownBlock]), by rw [hz]; exact hg⟩
theorem compact_none (w : World) :
    Calls Try.prog 85 #[.slice none 0 0] w fun e w' => e = .returned (.slice none 0 0) ∧ w' = w := by
  go_enter Try.func85, Try.ntmps85
  go_wp2_with fail
  all_goals (first | (go_ret; exact ⟨rfl, rfl⟩) | skip)
def zCompact (_N : Nat) (p0 : List Int) : Option (List Int) := some (cpt p0)
def zCompact_R (p0 : List Int) (A0 : Option Addr) (c0 : Nat) (r : List Int) (w0 : World) (v : Value) (w : World) : Prop := ∃ (A0' : Option Addr) (c0' : Nat), v = .slice A0' r.length c0' ∧ St (foots [rowE .u16 31 A0 c0 p0]) w0 w [rowE .u16 31 A0' c0' r]
theorem zCompact_ok (N : Nat) (p0 : List Int) (A0 : Option Addr) (c0 : Nat) (r : List Int) (hF : zCompact N p0 = some r) (w0 : World) (hl : St (foots [rowE .u16 31 A0 c0 p0]) w0 w0 [rowE .u16 31 A0 c0 p0]) :
    Calls Try.prog 85 #[.slice A0 p0.length c0] w0 fun e w => ∃ v, e = .returned v ∧ zCompact_R p0 A0 c0 r w0 v w := by
  obtain rfl := Option.some.inj hF
  have hr : w0.ownsRow 0 31 1 (.slice A0 p0.length c0) p0.length (p0.map (Value.int .u16)) := (hl.holds (rowE .u16 31 A0 c0 p0) (List.mem_singleton.2 rfl)).1
  rcases hr.2 with ⟨h, h'⟩ | ⟨g, cap, cur, e, hB, hb, h1, h2, h3, h4⟩
  · injection h with e1 e2 e3
    subst e1
    subst e3
    have : p0 = [] := List.length_eq_zero_iff.1 e2
    subst this
    refine (compact_none w0).mono ?_
    rintro e w ⟨rfl, rfl⟩
    exact ⟨_, rfl, none, 0, rfl, hl⟩
  · injection e with e1 e2 e3
    subst e1
    refine (compact_some g c0 p0 w0 hl).mono ?_
    rintro e w ⟨rfl, h⟩
    exact ⟨_, rfl, _, _, rfl, h⟩
end Go.Proofs.Ytgjlpiljacecpaa
