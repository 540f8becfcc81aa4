/-
  Slices of numbers, as the walks ask them.
-/
import Derived.Test.YtbdhgjaoojimmaaDoorProg
import Derived.WalkKit
import Derived.KernelRfl
import Derived.Below
import Derived.WalkLawsBesides
import Derived.WalkSpells
import Derived.WalkMore
import Derived.Deep.LoopGhost
import Derived.Deep.CutRange
import Derived.Deep.RegionHeld3
import Derived.Lib.Hide
import Derived.ProofKit
import Derived.Laws.AppendOwn
import Derived.Laws.AppendOwnNone
import Derived.Laws.BytesArg
import Derived.Maps.AppendAt
namespace Go.Proofs.YtbdhgjaoojimmaaDoor
open Go Go.RowKit

theorem add_flat (b o i : Nat) : (⟨b, o, none⟩ : Addr).add i = ⟨b, o + i, none⟩ := by unfold Addr.add; split <;> simp_all

theorem heap_more (w : World) (o : Obj) : w.heap.size < (w.alloc o).heap.size := by show w.heap.size < (w.heap.push o).size; simp

theorem heap_plus (w : World) (o : Obj) : (w.alloc o).heap.size = w.heap.size + 1 := by show (w.heap.push o).size = _; simp

theorem own_row_lt {w : World} {k : Nat} {o : Obj} (h : w.heap[k]? = some o) : k < w.heap.size := by
  rcases Nat.lt_or_ge k w.heap.size with h' | h'
  · exact h'
  · rw [Array.getElem?_eq_none h'] at h; cases h

theorem cellsAt_below {w w' : World} {p : Addr} {v : Value} (h : w.cell? p = some v) (hb : Below w.heap.size w w') : w'.cell? p = some v := by
  rw [hb.cell (World.block_lt_of_cell? w _ h)]; exact h

theorem cells_alloc {w : World} {p : Addr} {v : Value} (o : Obj) (h : w.cell? p = some v) : (w.alloc o).cell? p = some v := cellsAt_below h ((Below.refl _ w).alloc (Nat.le_refl _) o)

theorem below_alloc {w w' : World} (o : Obj) (h : Below w.heap.size w w') : Below w.heap.size w (w'.alloc o) := h.alloc h.size o

/-- a value that reads as these numbers -/
def NumZ (k : IntKind) (w : World) (v : Value) (l : List Int) : Prop :=
  ∃ A c, v = .slice A l.length c ∧ l.length ≤ c ∧ c ≤ 9223372036854775807 ∧ (l ≠ [] → ∃ g off, A = some ⟨g, off, none⟩ ∧ g < w.heap.size ∧ ∀ (j : Nat) (h : j < l.length), w.cell? ⟨g, off + j, none⟩ = some (.int k l[j]))

theorem NumZ.below {k : IntKind} {w w' : World} {v : Value} {l : List Int} (h : NumZ k w v l) (hb : Below w.heap.size w w') : NumZ k w' v l := by
  obtain ⟨A, c, e, hc, hc2, hx⟩ := h
  refine ⟨A, c, e, hc, hc2, fun hne => ?_⟩
  obtain ⟨g, off, hA, hg, hcell⟩ := hx hne
  have := hb.size
  exact ⟨g, off, hA, by omega, fun j hj => by rw [hb.cell (by exact hg)]; exact hcell j hj⟩

theorem NumZ.alloc {k : IntKind} {w : World} {v : Value} {l : List Int} (o : Obj) (h : NumZ k w v l) : NumZ k (w.alloc o) v l := h.below ((Below.refl _ w).alloc (Nat.le_refl _) o)

theorem NumZ.cells {k : IntKind} {w : World} {A : Option Addr} {n c : Nat} {l : List Int} (h : NumZ k w (.slice A n c) l) (hne : l ≠ []) : ∃ g off, A = some ⟨g, off, none⟩ ∧ g < w.heap.size ∧ ∀ (j : Nat) (h : j < l.length), w.cell? ⟨g, off + j, none⟩ = some (.int k l[j]) := by
  obtain ⟨A', c', e, _, _, hx⟩ := h
  injection e with e1 e2 e3
  subst e1
  exact hx hne

theorem NumZ.nil (k : IntKind) (w : World) : NumZ k w (.slice none 0 0) [] := ⟨none, 0, rfl, Nat.le_refl _, by decide, fun h => absurd rfl h⟩

theorem num_new (k : IntKind) (w : World) (l : List Int) (t : TypeId) (hlen : l.length ≤ 1000000) : NumZ k (w.alloc (.cells (l.map fun d : Int => Value.int k d).toArray t)) (.slice (some ⟨w.heap.size, 0, none⟩) l.length l.length) l := by
  refine ⟨_, _, rfl, Nat.le_refl _, by omega, fun _ => ⟨w.heap.size, 0, rfl, heap_more _ _, fun j hj => ?_⟩⟩
  rw [Nat.zero_add, cell_of_row _ w.heap.size j _ _ _ (heap_alloc_new w _)]
  simp [hj]

/-- the numbers from a place on -/
theorem NumZ.piece {k : IntKind} {w : World} {g off c : Nat} {l : List Int} (hc : l.length ≤ c) (hc2 : c ≤ 9223372036854775807) (hg : g < w.heap.size) (hcell : ∀ (j : Nat) (h : j < l.length), w.cell? ⟨g, off + j, none⟩ = some (.int k l[j])) (f q : Nat) (hfq : f ≤ q) (hq : q ≤ l.length) :
    NumZ k w (.slice (some ⟨g, off + f, none⟩) (q - f) (c - f)) ((l.drop f).take (q - f)) := by
  have hpl : ((l.drop f).take (q - f)).length = q - f := by simp; omega
  refine ⟨some ⟨g, off + f, none⟩, c - f, by rw [hpl], by omega, by omega, fun _ => ⟨g, off + f, rfl, hg, fun j hj => ?_⟩⟩
  rw [hpl] at hj
  have hj2 : f + j < l.length := by omega
  rw [Nat.add_assoc, hcell (f + j) hj2]
  simp

/-- a row of bytes of the call's own -/
def OwnB (B : Nat) (w : World) (v : Value) (l : List Int) : Prop := w.ownsRow B 5 1 v l.length (l.map fun d : Int => Value.int .u8 d)

theorem OwnB.nil (B : Nat) (w : World) : OwnB B w (.slice none 0 0) [] := World.ownsRow_nil _ _ _ _

theorem OwnB.read {B : Nat} {w : World} {v : Value} {l : List Int} (h : OwnB B w v l) : NumZ .u8 w v l := by
  have h1 : w.ownsRow B 5 1 v l.length (l.map fun d : Int => Value.int .u8 d) := h
  rcases h1.2 with ⟨rfl, h0⟩ | ⟨g, cap, cur, rfl, hb, hg, hc, hm, hs, ht⟩
  · exact ⟨none, 0, by rw [h0], by omega, by omega, fun hne => absurd (List.length_eq_zero_iff.1 h0) hne⟩
  · refine ⟨some ⟨g, 0, none⟩, cap, rfl, hc, by unfold maxLen at hm; omega, fun _ => ⟨g, 0, rfl, own_row_lt hg, fun j hj => ?_⟩⟩
    have := h1.cells (g := g) rfl j (.int .u8 l[j]) (by simp [hj])
    rwa [add_flat] at this

theorem ownB_cases {B : Nat} {w : World} {v : Value} {ds : List Int} (h : OwnB B w v ds) : (∃ A cap, v = .slice A ds.length cap) ∧ ∀ k, v.ownBlock = some k → B ≤ k := by
  have h1 : w.ownsRow B 5 1 v ds.length (ds.map fun d : Int => Value.int .u8 d) := h
  rcases h1.2 with ⟨rfl, h0⟩ | ⟨g, cap, cur, rfl, hb, hg, rest⟩
  · exact ⟨⟨none, 0, by rw [h0]⟩, fun k hk => by simp [Value.ownBlock] at hk⟩
  · exact ⟨⟨_, cap, rfl⟩, fun k hk => by simp [Value.ownBlock] at hk; omega⟩

theorem OwnB.nn {B : Nat} {w : World} {v : Value} {l : List Int} (h : OwnB B w v l) : ∀ n c, v = .slice none n c → n = 0 ∧ c = 0 := by
  have h1 : w.ownsRow B 5 1 v l.length (l.map fun d : Int => Value.int .u8 d) := h
  intro n c hv
  rcases h1.2 with ⟨rfl, h0⟩ | ⟨g, cap, cur, rfl, hb, hg, rest⟩
  · injection hv with _ e1 e2
    exact ⟨e1.symm, e2.symm⟩
  · cases hv

theorem ownB_stays {w w' : World} {B : Nat} {v : Value} {xs : List Int} (h : OwnB B w v xs) (hb : Below w.heap.size w w') : OwnB B w' v xs := by
  have h1 : w.ownsRow B 5 1 v xs.length (xs.map fun d : Int => Value.int .u8 d) := h
  refine ⟨h1.1, ?_⟩
  rcases h1.2 with h2 | ⟨g, cap, cur, e, hB, hg, rest⟩
  · exact .inl h2
  · exact .inr ⟨g, cap, cur, e, hB, by rw [hb.block g (own_row_lt hg)]; exact hg, rest⟩

theorem own_new (B : Nat) (w : World) (l : List Int) (hlen : l.length ≤ 1000000) (hB : B ≤ w.heap.size) : OwnB B (w.alloc (.cells (l.map fun d : Int => Value.int .u8 d).toArray 5)) (.slice (some ⟨w.heap.size, 0, none⟩) l.length l.length) l := by
  refine ⟨by simp, .inr ⟨w.heap.size, l.length, _, rfl, hB, heap_alloc_new w _, Nat.le_refl _, by unfold maxLen; omega, by simp, by simp [List.take_of_length_le]⟩⟩

theorem infoB : (Tryd.prog.info? 5).map (fun i => (i.zero, i.size, i.bytes)) = some (some (.int .u8 0), 1, 1) := by kernel_rfl

/-- append(s, l...) for bytes -/
theorem wp_append_b {ops : Array Oper} {rest : List Oper} {o : Oper} {a : Act} {Q : Exit → Act → World → Prop} {w : World} (hgd : o.guard = none) (s x : Operand)
    (ho : o.op = .call { callee := .builtin .append, args := #[s, x], argTypes := #[24, 24] })
    (B : Nat) (vs : Value) (l1 : List Int) (hs : a.eval s = vs) (hown : OwnB B w vs l1) (v : Value) (l : List Int) (hx : a.eval x = v) (hv : NumZ .u8 w v l) (hnn : ∀ n c, v = .slice none n c → n = 0 ∧ c = 0) (hl : l1.length + l.length ≤ 1000000000) (hB : B ≤ w.heap.size)
    (h : ∀ v' w', OwnB B w' v' (l1 ++ l) → (∀ w0, Below B w0 w → Below B w0 w') → wpList Tryd.prog ops Q rest (a.put o.dst v') w') :
    wpList Tryd.prog ops Q (o :: rest) a w := by
  obtain ⟨i0, hi0I, hz0I, hs0I, hb0I⟩ : ∃ i0, Tryd.prog.info? 5 = some i0 ∧ i0.zero = some (.int .u8 0) ∧ i0.size = 1 ∧ i0.bytes = 1 := by
    have := infoB
    cases hq : Tryd.prog.info? 5 with
    | none => rw [hq] at this; cases this
    | some i0 =>
      rw [hq] at this
      simp only [Option.map_some, Option.some.injEq, Prod.mk.injEq] at this
      exact ⟨i0, rfl, this.1, this.2.1, this.2.2⟩
  have hge := (ownB_cases hown).2
  obtain ⟨A, cap, rfl, hcap, hcap2, hc⟩ := hv
  by_cases hne : l = []
  · subst hne
    cases A with
    | none =>
      obtain ⟨_, rfl⟩ := hnn _ _ rfl
      refine wpList_append_own_none (P := Tryd.prog) hgd s x _ ho B 5 i0 1 Tryd.underlying24 hi0I _ _ _ hs hown hx ?_
      exact h _ w (by rw [List.append_nil]; exact hown) (fun w0 hb => hb)
    | some ad =>
      refine wpList_append_own_at (P := Tryd.prog) w hgd s x _ ho B 5 i0 (.int .u8 0) 1 1 Tryd.underlying24 hi0I hz0I hs0I hb0I rfl (by decide) _ _ _ hs hown ad 0 cap [] hx rfl (by simp) (by simp) (by unfold maxLen; simp at hl; omega) (by simp at hl; omega) hB ?_
      intro v' w' hown' hgrow _ _
      exact h v' w' (by rw [List.append_nil]; simp only [List.append_nil, Nat.add_zero] at hown'; exact hown') (fun w0 hb => hb.grown hgrow hB (fun k hk => hge k hk))
  · obtain ⟨g, off, rfl, hg, hcell⟩ := hc hne
    refine wpList_append_own_at (P := Tryd.prog) w hgd s x _ ho B 5 i0 (.int .u8 0) 1 1 Tryd.underlying24 hi0I hz0I hs0I hb0I rfl (by decide) _ _ _ hs hown ⟨g, off, none⟩ l.length cap (l.map fun d : Int => Value.int .u8 d) hx (by simp) ?_ ?_ (by unfold maxLen; omega) (by omega) hB ?_
    · intro j u hj
      rw [add_flat]
      have hj' : j < l.length := by
        rcases Nat.lt_or_ge j l.length with h' | h'
        · exact h'
        · simp [h'] at hj
      rw [hcell j hj']
      simpa [hj'] using hj
    · intro u hu
      obtain ⟨d, _, rfl⟩ := List.mem_map.1 hu
      rfl
    · intro v' w' hown' hgrow _ _
      exact h v' w' (by unfold OwnB; rw [List.length_append, List.map_append]; exact hown') (fun w0 hb => hb.grown hgrow hB (fun k hk => hge k hk))

/-- string(b) -/
theorem conv_b (w : World) (v : Value) (l : List Int) (h : NumZ .u8 w v l) : (convert 24 9 v).run Tryd.prog w = .ok (.string (strOfNums l)) w := by
  obtain ⟨A, c, rfl, hc, _, hx⟩ := h
  by_cases hne : l = []
  · subst hne
    cases A with
    | none => rw [run_convert_bytes_nil (P := Tryd.prog) w 24 5 Tryd.underlying24 Tryd.underlying5 _ _ _ Tryd.underlying9]; rfl
    | some ad =>
      rw [run_convert_bytes_string w 24 9 5 _ _ _ Tryd.underlying24 Tryd.underlying5 Tryd.underlying9]
      show (Conv.bytesToString (.slice (some ad) 0 c)).run Tryd.prog w = _
      rw [run_bytesToString w _ 0 c [] (by simpa using run_loadCells_list (P := Tryd.prog) w ad [] (fun j v hj => by cases hj))]
      rfl
  · obtain ⟨g, off, rfl, hg, hcell⟩ := hx hne
    exact run_convert_bytes_arg (P := Tryd.prog) w 24 5 Tryd.underlying24 Tryd.underlying5 g off _ c l rfl (fun i hi => by rw [hcell i hi]; simp [hi]) _ Tryd.underlying9
end Go.Proofs.YtbdhgjaoojimmaaDoor
