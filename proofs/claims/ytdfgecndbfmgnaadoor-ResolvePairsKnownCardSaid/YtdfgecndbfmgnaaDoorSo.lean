/-
  The pairs, sorted by their opening brackets.
-/
import Derived.Test.YtdfgecndbfmgnaaDoorSu
import Derived.Test.YtdfgecndbfmgnaaDoorShelf
import Derived.ProofKit
namespace Go.Proofs.YtdfgecndbfmgnaaDoor
open Go Go.RowKit
open Go.Sort hiding Below
set_option linter.unusedVariables false
set_option linter.unusedSimpArgs false

def encP (x : Int × Int) : List Value := [.int .i64 x.1, .int .i64 x.2]
def cellsP (l : List (Int × Int)) : List Value := l.flatMap encP
theorem cellsP_len (l : List (Int × Int)) : (cellsP l).length = l.length * 2 := by
  induction l with
  | nil => rfl
  | cons x l ih => simp only [cellsP, List.flatMap_cons, List.length_append, List.length_cons] at ih ⊢; rw [ih]; simp [encP]; omega
theorem cellsP_at : ∀ (l : List (Int × Int)) (t : Nat), t < l.length * 2 → (cellsP l)[t]? = (encP l[t / 2]!)[t % 2]?
  | [], t, h => by simp at h
  | x :: l, 0, h => rfl
  | x :: l, 1, h => rfl
  | x :: l, t + 2, h => by
    have ih := cellsP_at l t (by simp only [List.length_cons] at h; omega)
    have e1 : (t + 2) / 2 = t / 2 + 1 := by omega
    have e2 : (t + 2) % 2 = t % 2 := by omega
    rw [e1, e2]
    simpa [cellsP, encP] using ih
theorem flat_eq (l : List (Int × Int)) : flatK encP 2 l.toArray = (cellsP l).toArray := by
  apply Array.ext'
  apply List.ext_getElem?
  intro t
  by_cases h : t < l.length * 2
  · rw [show (cellsP l).toArray.toList = cellsP l from rfl, cellsP_at l t h]
    have h2 : (flatK encP 2 l.toArray).toList[t]? = some ((encP l.toArray[t / 2]!)[t % 2]!) := by simp [flatK, h]
    rw [h2]
    rcases Nat.mod_two_eq_zero_or_one t with h5 | h5 <;> simp [h5, encP]
  · rw [List.getElem?_eq_none (by simp; omega), List.getElem?_eq_none (by simp [cellsP_len]; omega)]

theorem against_any (x y : Int × Int) (W : World) : Calls Tryd.prog 15 #[.agg #[.int .i64 x.1, .int .i64 x.2], .agg #[.int .i64 y.1, .int .i64 y.2]] W fun e w' => e = .returned (.int .i64 (Lib.compareInt x.1 y.1)) ∧ ∃ q os', w' = grow (W.drewN q) os' := by
  have hcon := fun W' => Tryd.cmp_Compare_int x.1 y.1 W'
  generalize Lib.compareInt x.1 y.1 = r at hcon ⊢
  go_enter Tryd.func15, Tryd.ntmps15
  go_wp2_with (go_at_call 30; refine (hcon _).mono ?_; rintro e w' ⟨rfl, rfl⟩)
  go_ret
  exact ⟨rfl, 0, _, by rw [alloc_eq_grow, alloc_eq_grow, grow_grow]; rfl⟩
theorem against_lays (blk off size : Nat) (w : World) : CmpLays Tryd.prog 15 #[] encP 2 (fun x y => Lib.compareInt x.1 y.1) blk off size w :=
  fun _ _ _ _ x y => against_any x y _
theorem ltP (x y : Int × Int) : ltOf (fun x y : Int × Int => Lib.compareInt x.1 y.1) x y = decide (x.1 < y.1) := by
  unfold ltOf Lib.compareInt
  by_cases h1 : x.1 < y.1
  · simp [h1]
  · by_cases h2 : y.1 < x.1 <;> simp [h1, h2]
theorem swoP : Go.Sort.SWO (ltOf fun x y : Int × Int => Lib.compareInt x.1 y.1) where
  irrefl x := by rw [ltP]; simp
  trans x y z h1 h2 := by rw [ltP] at *; simp at *; omega
  ntrans x y z h1 h2 := by rw [ltP] at *; simp at *; omega

theorem held2 {w : World} {g : Nat} {cur : Array Value} {e : TypeId} {l : List (Int × Int)} (hb : w.heap[g]? = some (.cells cur e (0, 0))) (ht : cur.toList.take (l.length * 2) = cellsP l) : HoldsK encP 2 w g 0 l.toArray := by
  unfold HoldsK
  rw [flat_eq]
  intro j hj
  have hj' : j < l.length * 2 := by simpa [cellsP_len] using hj
  refine ⟨?_, by simp [World.frozen?, hb]⟩
  have h1 : (cur.toList.take (l.length * 2))[j]? = (cellsP l)[j]? := by rw [ht]
  rw [List.getElem?_take_of_lt hj'] at h1
  simp only [World.cell?, hb, Nat.zero_add]
  simp only [Option.isSome_none, Bool.false_eq_true, if_false]
  rw [← Array.getElem?_toList, h1]
  simp [cellsP_len, hj']
theorem put2_heap {w : World} {g n : Nat} {cur : Array Value} {e : TypeId} {fr : Nat × Nat} {d : Array (Int × Int)} {os : Array Obj} (hb : w.heap[g]? = some (.cells cur e fr)) :
    (sortWorldK encP 2 w g 0 n d os).heap[g]? = some (.cells (Go.Sort.putCells id 0 (flatK encP 2 d) cur) e fr) := by
  have hg := (Array.getElem?_eq_some_iff.1 hb).1
  have hs : g < (Go.Sort.putRowK encP 2 (Go.Sort.ahead w n) g 0 d).heap.size := by simpa [Go.Sort.putRowK, Go.Sort.putRow, Go.Sort.mapBlock, Go.Sort.ahead] using hg
  show ((Go.Sort.putRowK encP 2 (Go.Sort.ahead w n) g 0 d).heap ++ os)[g]? = _
  rw [Array.getElem?_append_left hs]
  simp [Go.Sort.putRowK, Go.Sort.putRow, Go.Sort.mapBlock, Go.Sort.ahead, Array.getElem?_modify, hb, Go.Sort.onCells]
theorem put2_else {w : World} {g n : Nat} {d : Array (Int × Int)} {os : Array Obj} {j : Nat} (hj : j ≠ g) (hl : j < w.heap.size) : (sortWorldK encP 2 w g 0 n d os).heap[j]? = w.heap[j]? := by
  have hne : g ≠ j := fun e => hj e.symm
  have hs : j < (Go.Sort.putRowK encP 2 (Go.Sort.ahead w n) g 0 d).heap.size := by simpa [Go.Sort.putRowK, Go.Sort.putRow, Go.Sort.mapBlock, Go.Sort.ahead] using hl
  show ((Go.Sort.putRowK encP 2 (Go.Sort.ahead w n) g 0 d).heap ++ os)[j]? = _
  rw [Array.getElem?_append_left hs]
  simp [Go.Sort.putRowK, Go.Sort.putRow, Go.Sort.mapBlock, Go.Sort.ahead, Array.getElem?_modify, hne]
theorem put2_size {w : World} {g n : Nat} {d : Array (Int × Int)} {os : Array Obj} : (sortWorldK encP 2 w g 0 n d os).heap.size = w.heap.size + os.size := by
  show ((Go.Sort.putRowK encP 2 (Go.Sort.ahead w n) g 0 d).heap ++ os).size = _
  rw [Array.size_append]
  simp [Go.Sort.putRowK, Go.Sort.putRow, Go.Sort.mapBlock, Go.Sort.ahead]
theorem put2_take (cur : Array Value) (l : List (Int × Int)) (h : l.length * 2 ≤ cur.size) : (Go.Sort.putCells id 0 (cellsP l).toArray cur).toList.take (l.length * 2) = cellsP l := by
  have hl := cellsP_len l
  apply List.ext_getElem?
  intro j
  by_cases hj : j < l.length * 2
  · rw [List.getElem?_take_of_lt hj, Array.getElem?_toList]
    simp [Go.Sort.putCells, hl, hj, show j < cur.size by omega]
  · rw [List.getElem?_take_eq_none (by omega), List.getElem?_eq_none (by omega)]

abbrev prE (g c : Nat) (l : List (Int × Int)) : Ent := rowG 30 2 (.slice (some ⟨g, 0, none⟩) l.length c) l.length (cellsP l)
theorem sort_some (g c : Nat) (l : List (Int × Int)) (w0 : World) (hle : l.length ≤ 1000000000) (hl : St [g] w0 w0 [prE g c l]) :
    Calls Tryd.prog 14 #[.slice (some ⟨g, 0, none⟩) l.length c, .func (.func 15) #[] #[]] w0 fun e w => e = .returned (.tuple #[]) ∧
      ∃ l' : List (Int × Int), l'.Perm l ∧ l'.Pairwise (fun x y => x.1 ≤ y.1) ∧ St [g] w0 w [prE g c l'] := by
  have hr : w0.ownsRow 0 30 2 (.slice (some ⟨g, 0, none⟩) l.length c) l.length (cellsP l) := (hl.holds (prE g c l) (List.mem_singleton.2 rfl)).1
  rcases hr.2 with ⟨h, _⟩ | ⟨g', cap, cur, e, hB, hb, h1, h2, h3, h4⟩
  · cases h
  cases e
  have hg : g < w0.heap.size := (Array.getElem?_eq_some_iff.1 hb).1
  have hsz : l.toArray.size = l.length := by simp
  have eg : ∀ args w, (callFunc 15 args).run Tryd.prog w = .ok (.enter 15 args) w := enters_of Tryd.func15 (by kernel_rfl) rfl
  have hC := AnyQ.slices_SortFunc Tryd.sortP 2 (by intro w; kernel_rfl) (by intro w; kernel_rfl) encP (fun _ => rfl) (fun x v hv => by simp [encP] at hv; rcases hv with rfl | rfl <;> rfl) (fun x y => Lib.compareInt x.1 y.1) swoP 15 #[] g 0 c l.toArray w0 eg (against_lays g 0 l.toArray.size w0) (held2 hb h4) hg (by rw [hsz]; omega)
  rw [hsz] at hC
  change Calls Tryd.prog 14 _ _ _ at hC
  refine hC.mono ?_
  rintro e w ⟨rfl, d', n, os, hp, hs, rfl⟩
  obtain ⟨hps, _, hpp⟩ := hp
  have hsd : d'.size = l.length := by rw [hps, hsz]
  have hx : d'.extract 0 l.length = d' := by rw [← hsd]; exact Array.extract_size
  have hx2 : l.toArray.extract 0 l.length = l.toArray := by rw [← hsz]; exact Array.extract_size
  rw [hx, hx2] at hpp
  obtain ⟨l', rfl⟩ : ∃ l' : List (Int × Int), d' = l'.toArray := ⟨d'.toList, rfl⟩
  have hsd : l'.length = l.length := by simpa using hsd
  refine ⟨rfl, l', hpp, ?_, ?_⟩
  · rw [List.pairwise_iff_getElem]
    intro i j hi hj hij
    have := hs i j (Nat.zero_le _) hij (by omega)
    rw [ltP] at this
    simp [hi, hj] at this
    omega
  · refine ⟨⟨rfl, rfl, rfl, by rw [put2_size]; omega, fun k hk hn => put2_else (fun e => hn (by subst e; simp)) hk⟩, ?_, List.pairwise_singleton _ _⟩
    intro e he
    obtain rfl := List.mem_singleton.1 he
    refine ⟨?_, fun k hk => ?_⟩
    · refine ⟨cellsP_len l', .inr ⟨g, c, _, rfl, Nat.zero_le _, put2_heap hb, by omega, h2, by simpa [Go.Sort.putCells] using h3, ?_⟩⟩
      rw [flat_eq]
      exact put2_take cur l' (by omega)
    · have : k = g := by simpa [rowG, Value.ownBlock] using hk
      subst this
      exact ⟨.inr (by simp), by rw [put2_size]; omega⟩
end Go.Proofs.YtdfgecndbfmgnaaDoor
