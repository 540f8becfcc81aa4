/-
  Memory of one's own, told by a list of entries.
-/
import Derived.Test.YtbdhgjaoojimmaaDoorGx
import Derived.Test.YtbdhgjaoojimmaaDoorNum
import Derived.Deep.OwnRows
namespace Go.Proofs.YtbdhgjaoojimmaaDoor
open Go Go.RowKit

/-- a piece of memory: which blocks, and what holds of them -/
structure Ent where
  foot : List Nat
  holds : World → Prop
  loc : ∀ w w', (∀ k ∈ foot, w'.heap[k]? = w.heap[k]?) → holds w → holds w'

/-- a row that may grow -/
def rowG (T size : Nat) (v : Value) (n : Nat) (cs : List Value) : Ent where
  foot := v.ownBlock.toList
  holds w := w.ownsRow 0 T size v n cs
  loc w w' hk h := by
    refine ⟨h.1, ?_⟩
    rcases h.2 with h2 | ⟨g, cap, cur, e, hB, hg, rest⟩
    · exact .inl h2
    · exact .inr ⟨g, cap, cur, e, hB, by rw [hk g (by rw [e]; simp [Value.ownBlock])]; exact hg, rest⟩

/-- a row of numbers -/
def rowE (k : IntKind) (T : Nat) (A : Option Addr) (c : Nat) (l : List Int) : Ent := rowG T 1 (.slice A l.length c) l.length (l.map (Value.int k))

/-- a block with these cells -/
def boxE (g : Nat) (cs : List Value) (T : Nat) : Ent where
  foot := [g]
  holds w := w.heap[g]? = some (.cells cs.toArray T (0, 0))
  loc w w' hk h := by rw [hk g (by simp)]; exact h

/-- what was there is as it was, but for these blocks -/
structure But (bs : List Nat) (B : Nat) (w w' : World) : Prop where
  os : w'.os = w.os
  tape : w'.tape = w.tape
  output : w'.output = w.output
  size : w.heap.size ≤ w'.heap.size
  block : ∀ k, k < B → k ∉ bs → w'.heap[k]? = w.heap[k]?

theorem But.refl (bs : List Nat) (B : Nat) (w : World) : But bs B w w := ⟨rfl, rfl, rfl, Nat.le_refl _, fun _ _ _ => rfl⟩
theorem But.of {bs : List Nat} {B : Nat} {w w' : World} (h : Below B w w') : But bs B w w' := ⟨h.os, h.tape, h.output, h.size, fun k hk _ => h.block k hk⟩
theorem But.below {B : Nat} {w w' : World} (h : But [] B w w') : Below B w w' := ⟨h.os, h.tape, h.output, h.size, fun k hk => h.block k hk (by simp)⟩
theorem But.trans {bs : List Nat} {B : Nat} {a b c : World} (h : But bs B a b) (k : But bs B b c) : But bs B a c :=
  ⟨k.os.trans h.os, k.tape.trans h.tape, k.output.trans h.output, Nat.le_trans h.size k.size, fun i hi hb => (k.block i hi hb).trans (h.block i hi hb)⟩
theorem But.mono {bs bs' : List Nat} {B B' : Nat} {w w' : World} (h : But bs B w w') (hB : B' ≤ B) (hb : ∀ k, k < B' → k ∈ bs → k ∈ bs') : But bs' B' w w' :=
  ⟨h.os, h.tape, h.output, h.size, fun k hk hn => h.block k (Nat.lt_of_lt_of_le hk hB) (fun hm => hn (hb k hk hm))⟩

/-- where a call stands: what was there is as it was, but for the blocks bs, which it was lent; these entries are its own, or lent -/
structure St (bs : List Nat) (w0 w : World) (es : List Ent) : Prop where
  but : But bs w0.heap.size w0 w
  holds : ∀ e ∈ es, e.holds w ∧ ∀ k ∈ e.foot, (w0.heap.size ≤ k ∨ k ∈ bs) ∧ k < w.heap.size
  apart : es.Pairwise (fun a b => ∀ k ∈ a.foot, k ∉ b.foot)

theorem St.start (w : World) : St [] w w [] := ⟨But.refl _ _ _, fun _ h => (by cases h), List.Pairwise.nil⟩

theorem St.size {bs : List Nat} {w0 w : World} {es : List Ent} (h : St bs w0 w es) : w0.heap.size ≤ w.heap.size := h.but.size
theorem St.below {w0 w : World} {es : List Ent} (h : St [] w0 w es) : Below w0.heap.size w0 w := h.but.below

theorem St.stay {bs : List Nat} {w0 w w' : World} {es : List Ent} (h : St bs w0 w es) (hb : Below w.heap.size w w') : St bs w0 w' es := by
  refine ⟨h.but.trans (But.of (hb.mono h.size)), fun e he => ?_, h.apart⟩
  obtain ⟨h1, h2⟩ := h.holds e he
  exact ⟨e.loc w w' (fun k hk => hb.block k (h2 k hk).2) h1, fun k hk => ⟨(h2 k hk).1, Nat.lt_of_lt_of_le (h2 k hk).2 hb.size⟩⟩

theorem St.drew {bs : List Nat} {w0 w : World} {es : List Ent} (h : St bs w0 w es) : St bs w0 w.drew es := h.stay (Below.refl _ w).drew

theorem St.add {bs : List Nat} {w0 w w' : World} {es : List Ent} (h : St bs w0 w es) (hb : Below w.heap.size w w') (e : Ent) (he : e.holds w') (hf : ∀ k ∈ e.foot, w.heap.size ≤ k ∧ k < w'.heap.size) : St bs w0 w' (es ++ [e]) := by
  have hs := h.stay hb
  refine ⟨hs.but, fun x hx => ?_, List.pairwise_append.2 ⟨hs.apart, List.pairwise_singleton _ _, fun a ha b hb' k hk hk2 => ?_⟩⟩
  · rcases List.mem_append.1 hx with hx | hx
    · exact hs.holds x hx
    · obtain rfl := List.mem_singleton.1 hx
      exact ⟨he, fun k hk => ⟨.inl (Nat.le_trans h.size (hf k hk).1), (hf k hk).2⟩⟩
  · obtain rfl := List.mem_singleton.1 hb'
    have h1 := ((h.holds a ha).2 k hk).2
    have h2 := (hf k hk2).1
    omega

theorem St.get {bs : List Nat} {w0 w : World} {es : List Ent} {e : Ent} (h : St bs w0 w es) (i : Nat) (hi : es[i]? = some e) : e.holds w := (h.holds e (List.mem_of_getElem? hi)).1

theorem St.foot {bs : List Nat} {w0 w : World} {es : List Ent} {e : Ent} (h : St bs w0 w es) (i : Nat) (hi : es[i]? = some e) : ∀ k ∈ e.foot, (w0.heap.size ≤ k ∨ k ∈ bs) ∧ k < w.heap.size := (h.holds e (List.mem_of_getElem? hi)).2

/-- two entries lie apart -/
theorem St.two {bs : List Nat} {w0 w : World} {es : List Ent} {e e' : Ent} (h : St bs w0 w es) (i j : Nat) (hi : es[i]? = some e) (hj : es[j]? = some e') (hne : i ≠ j) : ∀ k ∈ e.foot, k ∉ e'.foot := by
  obtain ⟨li, ei⟩ := List.getElem?_eq_some_iff.1 hi
  obtain ⟨lj, ej⟩ := List.getElem?_eq_some_iff.1 hj
  have hp := List.pairwise_iff_getElem.1 h.apart
  rw [← ei, ← ej]
  rcases Nat.lt_or_gt_of_ne hne with hl | hl
  · exact hp i j li lj hl
  · intro k h1 h2
    exact hp j i lj li hl k h2 h1

/-- one entry turns -/
theorem St.turn {bs : List Nat} {w0 w w' : World} {es : List Ent} {e : Ent} (h : St bs w0 w es) (i : Nat) (hi : es[i]? = some e) (ho : w'.os = w.os ∧ w'.tape = w.tape ∧ w'.output = w.output) (hz : w.heap.size ≤ w'.heap.size)
    (hk : ∀ k, k < w.heap.size → k ∉ e.foot → w'.heap[k]? = w.heap[k]?) (e' : Ent) (he : e'.holds w') (hf : ∀ k ∈ e'.foot, k ∈ e.foot ∨ (w.heap.size ≤ k ∧ k < w'.heap.size)) : St bs w0 w' (es.set i e') := by
  have hlt : i < es.length := (List.getElem?_eq_some_iff.1 hi).1
  have hei : es[i] = e := (List.getElem?_eq_some_iff.1 hi).2
  have hfe := h.foot i hi
  have apart : ∀ j (hj : j < es.length), j ≠ i → ∀ k ∈ (es[j]).foot, k ∉ e.foot := fun j hj hne => h.two j i (List.getElem?_eq_getElem hj) hi hne
  have each : ∀ j (hj : j < es.length), j ≠ i → (es[j]).holds w' ∧ ∀ k ∈ (es[j]).foot, (w0.heap.size ≤ k ∨ k ∈ bs) ∧ k < w'.heap.size := by
    intro j hj hne
    obtain ⟨h1, h2⟩ := h.holds es[j] (List.getElem_mem hj)
    exact ⟨(es[j]).loc w w' (fun k hk1 => hk k (h2 k hk1).2 (apart j hj hne k hk1)) h1, fun k hk1 => ⟨(h2 k hk1).1, Nat.lt_of_lt_of_le (h2 k hk1).2 hz⟩⟩
  have own : ∀ k ∈ e'.foot, (w0.heap.size ≤ k ∨ k ∈ bs) ∧ k < w'.heap.size := by
    intro k hk1
    rcases hf k hk1 with h1 | h1
    · exact ⟨(hfe k h1).1, Nat.lt_of_lt_of_le (hfe k h1).2 hz⟩
    · exact ⟨.inl (Nat.le_trans h.size h1.1), h1.2⟩
  have apart2 : ∀ j (hj : j < es.length), j ≠ i → ∀ k ∈ (es[j]).foot, k ∉ e'.foot := by
    intro j hj hne k hk1 hk2
    rcases hf k hk2 with h1 | h1
    · exact apart j hj hne k hk1 h1
    · have := ((h.holds es[j] (List.getElem_mem hj)).2 k hk1).2
      omega
  refine ⟨h.but.trans ⟨ho.1, ho.2.1, ho.2.2, hz, fun k hk1 hn => hk k (by have := h.size; omega) (fun hm => ?_)⟩, fun x hx => ?_, List.pairwise_iff_getElem.2 fun x y hx hy hxy => ?_⟩
  · rcases (hfe k hm).1 with h1 | h1
    · omega
    · exact hn h1
  · obtain ⟨j, hj, rfl⟩ := List.mem_iff_getElem.1 hx
    rw [List.length_set] at hj
    rw [List.getElem_set]
    by_cases hij : i = j
    · rw [if_pos hij]; exact ⟨he, own⟩
    · rw [if_neg hij]; exact each j hj (fun e => hij e.symm)
  · rw [List.length_set] at hx hy
    rw [List.getElem_set, List.getElem_set]
    by_cases h1 : i = x
    · rw [if_pos h1, if_neg (by omega)]
      intro k hk1 hk2
      exact apart2 y hy (by omega) k hk2 hk1
    · rw [if_neg h1]
      by_cases h2 : i = y
      · rw [if_pos h2]; exact apart2 x hx (by omega)
      · rw [if_neg h2]; exact h.two x y (List.getElem?_eq_getElem hx) (List.getElem?_eq_getElem hy) (by omega)

/-- some of the entries -/
theorem St.pick {bs : List Nat} {w0 w : World} {es es' : List Ent} (h : St bs w0 w es) (ids : List Nat) (hn : (decide (ids.Nodup)) = true) (he : ids.map (fun i => es[i]?) = es'.map some) : St bs w0 w es' := by
  have hn := of_decide_eq_true hn
  have hl : ids.length = es'.length := by have := congrArg List.length he; simpa using this
  have key : ∀ j (hj : j < es'.length), es[ids[j]'(by omega)]? = some es'[j] := by
    intro j hj
    have := congrArg (fun l => l[j]?) he
    simpa [hj, hl] using this
  refine ⟨h.but, fun e hm => ?_, List.pairwise_iff_getElem.2 fun x y hx hy hxy => ?_⟩
  · obtain ⟨j, hj, rfl⟩ := List.mem_iff_getElem.1 hm
    exact h.holds _ (List.mem_of_getElem? (key j hj))
  · exact h.two _ _ (key x hx) (key y hy) (fun e => (List.pairwise_iff_getElem.1 hn) x y (by omega) (by omega) hxy e)

/-- how a slice reads that came in, and lies in none of the blocks that are lent -/
structure Vw (bs : List Nat) (k : IntKind) (w : World) (A : Option Addr) (c : Nat) (l : List Int) : Prop where
  num : NumZ k w (.slice A l.length c) l
  nn : A = none → c = 0
  off : ∀ p, A = some p → l ≠ [] → p.block ∉ bs

theorem St.view {bs : List Nat} {w0 w : World} {es : List Ent} (h : St bs w0 w es) {k : IntKind} {A : Option Addr} {c : Nat} {l : List Int} (hv : Vw bs k w0 A c l) : NumZ k w (.slice A l.length c) l := by
  obtain ⟨A', c', e, hc, hc2, hx⟩ := hv.num
  injection e with e1 e2 e3
  subst e1; subst e3
  refine ⟨A, c, rfl, hc, hc2, fun hne => ?_⟩
  obtain ⟨g, off, rfl, hg, hcell⟩ := hx hne
  have hb := h.but.block g hg (hv.off _ rfl hne)
  exact ⟨g, off, rfl, Nat.lt_of_lt_of_le hg h.size, fun j hj => by rw [World.cell?_of_block (w := w0) hb]; exact hcell j hj⟩

theorem Vw.of {k : IntKind} {w : World} {A : Option Addr} {c : Nat} {l : List Int} (h : NumZ k w (.slice A l.length c) l) (hn : A = none → c = 0) : Vw [] k w A c l := ⟨h, hn, fun _ _ _ => by simp⟩

theorem rowE_read {w : World} {k : IntKind} {T : Nat} {A : Option Addr} {c : Nat} {l : List Int} (h : (rowE k T A c l).holds w) : NumZ k w (.slice A l.length c) l ∧ (A = none → c = 0) := by
  have h1 : w.ownsRow 0 T 1 (.slice A l.length c) l.length (l.map (Value.int k)) := h
  rcases h1.2 with ⟨e, h0⟩ | ⟨g, cap, cur, e, hb, hg, hc, hm, hs, ht⟩
  · injection e with e1 e2 e3
    subst e1; subst e3
    exact ⟨⟨none, 0, rfl, by omega, by omega, fun hne => absurd (List.length_eq_zero_iff.1 h0) hne⟩, fun _ => rfl⟩
  · injection e with e1 e2 e3
    subst e1; subst e3
    refine ⟨⟨some ⟨g, 0, none⟩, c, rfl, hc, by unfold maxLen at hm; omega, fun _ => ⟨g, 0, rfl, own_row_lt hg, fun j hj => ?_⟩⟩, fun e => by cases e⟩
    have := h1.cells (g := g) rfl j (.int k l[j]) (by simp [hj])
    rwa [add_flat] at this

theorem St.row {bs : List Nat} {w0 w : World} {es : List Ent} (h : St bs w0 w es) (i : Nat) {k : IntKind} {T : Nat} {A : Option Addr} {c : Nat} {l : List Int} (hi : es[i]? = some (rowE k T A c l)) : NumZ k w (.slice A l.length c) l ∧ (A = none → c = 0) := rowE_read (h.get i hi)

/-- a row just made -/
theorem St.made {bs : List Nat} {w0 w : World} {es : List Ent} (h : St bs w0 w es) (k : IntKind) (T : Nat) (l : List Int) (hl : l.length ≤ 1000000000) :
    St bs w0 (w.alloc (.cells (l.map (Value.int k)).toArray T)) (es ++ [rowE k T (some ⟨w.heap.size, 0, none⟩) l.length l]) := by
  refine h.add ((Below.refl _ w).alloc (Nat.le_refl _) _) _ ?_ (fun k hk => ?_)
  · exact ⟨by simp, .inr ⟨w.heap.size, l.length, _, rfl, Nat.zero_le _, heap_alloc_new w _, Nat.le_refl _, by unfold maxLen; omega, by simp, by simp [List.take_of_length_le]⟩⟩
  · simp [rowE, rowG, Value.ownBlock] at hk
    subst hk
    exact ⟨Nat.le_refl _, heap_more _ _⟩

/-- a box just made -/
theorem St.boxed {bs : List Nat} {w0 w : World} {es : List Ent} (h : St bs w0 w es) (cs : List Value) (T : Nat) : St bs w0 (w.alloc (.cells cs.toArray T)) (es ++ [boxE w.heap.size cs T]) := by
  refine h.add ((Below.refl _ w).alloc (Nat.le_refl _) _) _ (heap_alloc_new w _) (fun k hk => ?_)
  simp [boxE] at hk
  subst hk
  exact ⟨Nat.le_refl _, heap_more _ _⟩

/-- a row of no cells yet -/
theorem St.nilrow {bs : List Nat} {w0 w : World} {es : List Ent} (h : St bs w0 w es) (k : IntKind) (T : Nat) : St bs w0 w (es ++ [rowE k T none 0 []]) :=
  h.add (Below.refl _ w) _ (World.ownsRow_nil _ _ _ _) (fun k hk => by simp [rowE, rowG, Value.ownBlock] at hk)

/-- a call's answer that is a row of its own -/
theorem St.take {bs : List Nat} {w0 w w' : World} {es : List Ent} (h : St bs w0 w es) (es' : List Ent) (h' : St [] w w' es') : St bs w0 w' (es ++ es') := by
  have hs := h.stay h'.below
  refine ⟨hs.but, fun x hx => ?_, List.pairwise_append.2 ⟨hs.apart, h'.apart, fun a ha b hb k hk hk2 => ?_⟩⟩
  · rcases List.mem_append.1 hx with hx | hx
    · exact hs.holds x hx
    · obtain ⟨h1, h2⟩ := h'.holds x hx
      refine ⟨h1, fun k hk => ⟨?_, (h2 k hk).2⟩⟩
      rcases (h2 k hk).1 with h3 | h3
      · exact .inl (Nat.le_trans h.size h3)
      · cases h3
  · have h1 := ((h.holds a ha).2 k hk).2
    rcases ((h'.holds b hb).2 k hk2).1 with h2 | h2
    · omega
    · cases h2

/-- a call to which two boxes were lent -/
theorem St.lend {bs : List Nat} {w0 w w' : World} {es : List Ent} {g1 g2 T1 T2 : Nat} {c1 c2 d1 d2 : List Value} (h : St bs w0 w es) (i j : Nat) (hi : es[i]? = some (boxE g1 c1 T1)) (hj : es[j]? = some (boxE g2 c2 T2))
    (es' : List Ent) (h' : St [g1, g2] w w' (boxE g1 d1 T1 :: boxE g2 d2 T2 :: es')) : St bs w0 w' (((es.set i (boxE g1 d1 T1)).set j (boxE g2 d2 T2)) ++ es') := by
  have li := (List.getElem?_eq_some_iff.1 hi).1
  have lj := (List.getElem?_eq_some_iff.1 hj).1
  have f1 := h.foot i hi g1 (by simp [boxE])
  have f2 := h.foot j hj g2 (by simp [boxE])
  have hL : ((es.set i (boxE g1 d1 T1)).set j (boxE g2 d2 T2)).length = es.length := by simp
  have at_ : ∀ m (hm : m < es.length), ((es.set i (boxE g1 d1 T1)).set j (boxE g2 d2 T2))[m]'(by rw [hL]; exact hm) = if j = m then boxE g2 d2 T2 else if i = m then boxE g1 d1 T1 else es[m] := by
    intro m hm
    rw [List.getElem_set]
    split
    · rfl
    · rw [List.getElem_set]
  have other : ∀ m (hm : m < es.length), m ≠ i → m ≠ j → ∀ k ∈ (es[m]).foot, k ∉ [g1, g2] := by
    intro m hm h1 h2 k hk hk2
    have a1 := h.two m i (List.getElem?_eq_getElem hm) hi h1 k hk
    have a2 := h.two m j (List.getElem?_eq_getElem hm) hj h2 k hk
    simp [boxE] at a1 a2 hk2
    omega
  have hb1 := h'.holds (boxE g1 d1 T1) (by simp)
  have hb2 := h'.holds (boxE g2 d2 T2) (by simp)
  have foot : ∀ m (hm : m < es.length), (((es.set i (boxE g1 d1 T1)).set j (boxE g2 d2 T2))[m]'(by rw [hL]; exact hm)).foot = (es[m]).foot := by
    intro m hm
    rw [at_ m hm]
    by_cases h1 : j = m
    · subst h1; rw [if_pos rfl, (List.getElem?_eq_some_iff.1 hj).2]; rfl
    · rw [if_neg h1]
      by_cases h2 : i = m
      · subst h2; rw [if_pos rfl, (List.getElem?_eq_some_iff.1 hi).2]; rfl
      · rw [if_neg h2]
  have hold : ∀ m (hm : m < es.length), (((es.set i (boxE g1 d1 T1)).set j (boxE g2 d2 T2))[m]'(by rw [hL]; exact hm)).holds w' := by
    intro m hm
    rw [at_ m hm]
    by_cases h1 : j = m
    · rw [if_pos h1]; exact hb2.1
    · rw [if_neg h1]
      by_cases h2 : i = m
      · rw [if_pos h2]; exact hb1.1
      · rw [if_neg h2]
        have hx := h.holds es[m] (List.getElem_mem hm)
        exact (es[m]).loc w w' (fun k hk => h'.but.block k (hx.2 k hk).2 (other m hm (fun e => h2 e.symm) (fun e => h1 e.symm) k hk)) hx.1
  refine ⟨h.but.trans (h'.but.mono h.size (fun k hk hm => ?_)), fun x hx => ?_, List.pairwise_append.2 ⟨List.pairwise_iff_getElem.2 fun x y hx hy hxy => ?_, ?_, fun a ha b hb k hk hk2 => ?_⟩⟩
  · simp only [List.mem_cons, List.not_mem_nil, or_false] at hm
    rcases hm with rfl | rfl
    · rcases f1.1 with h1 | h1
      · omega
      · exact h1
    · rcases f2.1 with h1 | h1
      · omega
      · exact h1
  · rcases List.mem_append.1 hx with hxa | hxb
    · obtain ⟨m, hm, rfl⟩ := List.mem_iff_getElem.1 hxa
      rw [hL] at hm
      refine ⟨hold m hm, fun k hk => ?_⟩
      rw [foot m hm] at hk
      have := (h.holds es[m] (List.getElem_mem hm)).2 k hk
      exact ⟨this.1, Nat.lt_of_lt_of_le this.2 h'.size⟩
    · have hx2 : x ∈ boxE g1 d1 T1 :: boxE g2 d2 T2 :: es' := by simp [hxb]
      obtain ⟨h1, h2⟩ := h'.holds x hx2
      refine ⟨h1, fun k hk => ⟨?_, (h2 k hk).2⟩⟩
      rcases (h2 k hk).1 with h3 | h3
      · exact .inl (Nat.le_trans h.size h3)
      · exfalso
        have hp := List.pairwise_cons.1 h'.apart
        have hp2 := List.pairwise_cons.1 hp.2
        simp only [List.mem_cons, List.not_mem_nil, or_false] at h3
        rcases h3 with rfl | rfl
        · exact hp.1 x (by simp [hxb]) k (by simp [boxE]) hk
        · exact hp2.1 x hxb k (by simp [boxE]) hk
  · rw [hL] at hx hy
    rw [foot x hx, foot y hy]
    exact h.two x y (List.getElem?_eq_getElem hx) (List.getElem?_eq_getElem hy) (by omega)
  · exact (List.pairwise_cons.1 (List.pairwise_cons.1 h'.apart).2).2
  · obtain ⟨m, hm, rfl⟩ := List.mem_iff_getElem.1 ha
    rw [hL] at hm
    rw [foot m hm] at hk
    have h1 := ((h.holds es[m] (List.getElem_mem hm)).2 k hk).2
    have hx2 : b ∈ boxE g1 d1 T1 :: boxE g2 d2 T2 :: es' := by simp [hb]
    rcases ((h'.holds b hx2).2 k hk2).1 with h3 | h3
    · omega
    · have hp := List.pairwise_cons.1 h'.apart
      have hp2 := List.pairwise_cons.1 hp.2
      simp only [List.mem_cons, List.not_mem_nil, or_false] at h3
      rcases h3 with rfl | rfl
      · exact hp.1 b (by simp [hb]) k (by simp [boxE]) hk2
      · exact hp2.1 b hb k (by simp [boxE]) hk2

/-- an entry that came in, to be used up -/
theorem St.lentE {w : World} {e : Ent} (he : e.holds w) (hf : ∀ k ∈ e.foot, k < w.heap.size) : St e.foot w w [e] := by
  refine ⟨But.refl _ _ _, fun x hx => ?_, List.pairwise_singleton _ _⟩
  obtain rfl := List.mem_singleton.1 hx
  exact ⟨he, fun k hk => ⟨.inr hk, hf k hk⟩⟩

/-- a call to which an entry was given -/
theorem St.give {bs : List Nat} {w0 w w' : World} {es : List Ent} {e : Ent} (h : St bs w0 w es) (i : Nat) (hi : es[i]? = some e) (es' : List Ent) (h' : St e.foot w w' es') : St bs w0 w' (es.eraseIdx i ++ es') := by
  have hlt : i < es.length := (List.getElem?_eq_some_iff.1 hi).1
  have hei : es[i] = e := (List.getElem?_eq_some_iff.1 hi).2
  have hfe := h.foot i hi
  have mem : ∀ x, x ∈ es.eraseIdx i → ∃ j, ∃ hj : j < es.length, j ≠ i ∧ es[j] = x := by
    intro x hx
    obtain ⟨j, hj, rfl⟩ := List.mem_iff_getElem.1 hx
    rw [List.getElem_eraseIdx]
    rw [List.length_eraseIdx, if_pos hlt] at hj
    split
    · exact ⟨j, by omega, by omega, rfl⟩
    · exact ⟨j + 1, by omega, by omega, rfl⟩
  have apart : ∀ j (hj : j < es.length), j ≠ i → ∀ k ∈ (es[j]).foot, k ∉ e.foot := fun j hj hne => h.two j i (List.getElem?_eq_getElem hj) hi hne
  refine ⟨h.but.trans (h'.but.mono h.size (fun k hk hm => ?_)), fun x hx => ?_, List.pairwise_append.2 ⟨h.apart.sublist (List.eraseIdx_sublist _ _), h'.apart, fun a ha b hb k hk hk2 => ?_⟩⟩
  · rcases (hfe k hm).1 with h1 | h1
    · omega
    · exact h1
  · rcases List.mem_append.1 hx with hxa | hxb
    · obtain ⟨j, hj, hne, rfl⟩ := mem x hxa
      obtain ⟨h1, h2⟩ := h.holds es[j] (List.getElem_mem hj)
      exact ⟨(es[j]).loc w w' (fun k hk => h'.but.block k (h2 k hk).2 (apart j hj hne k hk)) h1, fun k hk => ⟨(h2 k hk).1, Nat.lt_of_lt_of_le (h2 k hk).2 h'.size⟩⟩
    · obtain ⟨h1, h2⟩ := h'.holds x hxb
      refine ⟨h1, fun k hk => ⟨?_, (h2 k hk).2⟩⟩
      rcases (h2 k hk).1 with h3 | h3
      · exact .inl (Nat.le_trans h.size h3)
      · exact (hfe k h3).1
  · obtain ⟨j, hj, hne, rfl⟩ := mem a ha
    have h1 := ((h.holds es[j] (List.getElem_mem hj)).2 k hk).2
    rcases ((h'.holds b hb).2 k hk2).1 with h3 | h3
    · omega
    · exact apart j hj hne k hk h3

/-- two boxes that came in -/
theorem St.lent {w : World} {g1 g2 T1 T2 : Nat} {c1 c2 : List Value} (h1 : w.heap[g1]? = some (.cells c1.toArray T1 (0, 0))) (h2 : w.heap[g2]? = some (.cells c2.toArray T2 (0, 0))) (hne : g1 ≠ g2) : St [g1, g2] w w [boxE g1 c1 T1, boxE g2 c2 T2] := by
  refine ⟨But.refl _ _ _, fun e he => ?_, by simp [boxE, List.pairwise_cons]; exact hne⟩
  simp only [List.mem_cons, List.not_mem_nil, or_false] at he
  rcases he with rfl | rfl
  · exact ⟨h1, fun k hk => by simp [boxE] at hk; subst hk; exact ⟨.inr (by simp), own_row_lt h1⟩⟩
  · exact ⟨h2, fun k hk => by simp [boxE] at hk; subst hk; exact ⟨.inr (by simp), own_row_lt h2⟩⟩

theorem St.again {bs : List Nat} {w0 w : World} {es : List Ent} (h : St bs w0 w es) {k : IntKind} {A : Option Addr} {c : Nat} {l : List Int} (hv : Vw bs k w0 A c l) : Vw bs k w A c l := ⟨h.view hv, hv.nn, hv.off⟩

theorem St.ne {bs : List Nat} {w0 w : World} {es : List Ent} {g1 g2 T1 T2 : Nat} {c1 c2 : List Value} (h : St bs w0 w es) (i j : Nat) (hi : es[i]? = some (boxE g1 c1 T1)) (hj : es[j]? = some (boxE g2 c2 T2)) (hne : i ≠ j) : g1 ≠ g2 := by
  have := h.two i j hi hj hne g1 (by simp [boxE])
  simpa [boxE] using this

/-- a row of one's own, apart from two boxes -/
theorem St.rowv {bs : List Nat} {w0 w : World} {es : List Ent} {g1 g2 T1 T2 : Nat} {c1 c2 : List Value} {k : IntKind} {T : Nat} {A : Option Addr} {c : Nat} {l : List Int} (h : St bs w0 w es) (m i j : Nat) (hm : es[m]? = some (rowE k T A c l)) (hi : es[i]? = some (boxE g1 c1 T1)) (hj : es[j]? = some (boxE g2 c2 T2)) (h1 : m ≠ i) (h2 : m ≠ j) :
    Vw [g1, g2] k w A c l := by
  refine ⟨(h.row m hm).1, (h.row m hm).2, fun p hp _ hm2 => ?_⟩
  subst hp
  have a1 := h.two m i hm hi h1 p.block (by simp [rowE, rowG, Value.ownBlock])
  have a2 := h.two m j hm hj h2 p.block (by simp [rowE, rowG, Value.ownBlock])
  simp [boxE] at a1 a2 hm2
  omega

/-! ### operations -/

def iand (k : IntKind) (x y : Int) : Int := k.wrap ((BitVec.ofInt k.bits x &&& BitVec.ofInt k.bits y).toNat)
def ior (k : IntKind) (x y : Int) : Int := k.wrap ((BitVec.ofInt k.bits x ||| BitVec.ofInt k.bits y).toNat)
def ixor (k : IntKind) (x y : Int) : Int := k.wrap ((BitVec.ofInt k.bits x ^^^ BitVec.ofInt k.bits y).toNat)
def iandn (k : IntKind) (x y : Int) : Int := k.wrap ((BitVec.ofInt k.bits x &&& ~~~BitVec.ofInt k.bits y).toNat)

def ishr (k : IntKind) (x y : Int) : Int := x.fdiv (2 ^ min y.toNat k.bits)
def ishl (k : IntKind) (x y : Int) : Int := k.wrap (x * 2 ^ min y.toNat k.bits)

/-- a list at a place -/
def ix (l : List Int) (i : Int) : Option Int := if 0 ≤ i ∧ i < l.length then some (l.getD i.toNat 0) else none

theorem ix_in {l : List Int} {i v : Int} (h : ix l i = some v) : 0 ≤ i ∧ i < (l.length : Int) ∧ l[i.toNat]? = some v := by
  unfold ix at h
  split at h
  · rename_i hi
    refine ⟨hi.1, hi.2, ?_⟩
    have hlt : i.toNat < l.length := by omega
    rw [List.getD_eq_getElem?_getD, List.getElem?_eq_getElem hlt] at h
    rw [List.getElem?_eq_getElem hlt]
    exact h
  · cases h

/-- a string's bytes as numbers -/
def strL (s : ByteArray) : List Int := s.data.toList.map fun b => ((b.toNat : Nat) : Int)

theorem strL_len (s : ByteArray) : (strL s).length = s.size := by unfold strL; rw [List.length_map, Array.length_toList]; rfl

/-- a list with another number at a place -/
def setx (l : List Int) (i : Int) (v : Int) : Option (List Int) := if 0 ≤ i ∧ i < l.length then some (l.set i.toNat v) else none

/-- so many noughts -/
def mkx (n : Int) : Option (List Int) := if 0 ≤ n ∧ n ≤ 1000000000 then some (List.replicate n.toNat 0) else none

theorem mkx_in {n : Int} {l : List Int} (h : mkx n = some l) : 0 ≤ n ∧ n ≤ 1000000000 ∧ l = List.replicate n.toNat 0 := by
  unfold mkx at h
  split at h
  · rename_i hi; exact ⟨hi.1, hi.2, (Option.some.inj h).symm⟩
  · cases h

theorem setx_len {l l' : List Int} {i v : Int} (h : setx l i v = some l') : l'.length = l.length := by
  unfold setx at h
  split at h
  · rw [← Option.some.inj h, List.length_set]
  · cases h

theorem lt_len {n m : Nat} {i : Int} (hn : n = m) (h : i < (m : Int)) : i < (n : Int) := by rw [hn]; exact h
theorem nil_len {n m : Nat} {A : Option Addr} (hn : n = m) (h : A = none → m = 0) : A = none → n = 0 := by rw [hn]; exact h

/-- one list behind another, if no more than so many -/
def apx (l m : List Int) : Option (List Int) := if l.length + m.length ≤ 1000000000 then some (l ++ m) else none

theorem apx_in {l m r : List Int} (h : apx l m = some r) : l.length + m.length ≤ 1000000000 ∧ r = l ++ m := by
  unfold apx at h
  split at h
  · exact ⟨by assumption, (Option.some.inj h).symm⟩
  · cases h

theorem setx_in {l r : List Int} {i v : Int} (h : setx l i v = some r) : 0 ≤ i ∧ i < (l.length : Int) ∧ r = l.set i.toNat v := by
  unfold setx at h
  split at h
  · rename_i hi; exact ⟨hi.1, hi.2, (Option.some.inj h).symm⟩
  · cases h

theorem bind_in {α β : Type} {x : Option α} {f : α → Option β} {r : β} (h : (x.bind f) = some r) : ∃ y, x = some y ∧ f y = some r := Option.bind_eq_some_iff.1 h

theorem if_in {α : Type} {c : Prop} [Decidable c] {x y : Option α} {r : α} (h : (if c then x else y) = some r) : (c ∧ x = some r) ∨ (¬ c ∧ y = some r) := by
  by_cases hc : c
  · rw [if_pos hc] at h; exact .inl ⟨hc, h⟩
  · rw [if_neg hc] at h; exact .inr ⟨hc, h⟩

section
variable {P : Program} {bs : List Nat} {w0 w : World} {es : List Ent} {o : Oper} {ρ : Operand → Value}

theorem run_load1 {T : Nat} {x : Operand} {p : Addr} {v : Value} (ho : o.op = .load T x) (hx : ρ x = .pointer (some p)) (hT : ∀ w, (isAgg T).run P w = .ok false w) (hc : w.cell? p = some v) :
    (execOp ρ o).run P w = .ok (.value v) w := by
  unfold execOp
  rw [ho]
  simp only [hx, Instr.loadAt, Instr.sureAddr, loadVar, Sem.run_bind, Sem.run_pure, Result.andThen_ok, hT]
  simp [load, Sem.run, hc, Result.andThen]

theorem run_loadG {T g : Nat} {x : Operand} {cs : List Value} {T' : Nat} {d : TypeDesc} (ho : o.op = .load T x) (hx : ρ x = .pointer (some ⟨g, 0, none⟩)) (hg : w.heap[g]? = some (.cells cs.toArray T' (0, 0)))
    (hu : P.underlying T = some d) (hd : (match d with | .struct _ | .array _ _ => true | _ => false) = true) (hi : (P.info? T).map (·.size) = some cs.length) :
    (execOp ρ o).run P w = .ok (.value (.agg cs.toArray)) w := by
  have h := run_loadVar_row w g T' T cs.toArray (0, 0) d hg hu hd (by simpa using hi)
  unfold execOp
  rw [ho]
  simp only [hx, Instr.loadAt, Instr.sureAddr, Sem.run_bind, Sem.run_pure, Result.andThen_ok, h]

theorem run_store1 {T : Nat} {x y : Operand} {p : Addr} {v : Value} (ho : o.op = .store T x y) (hx : ρ x = .pointer (some p)) (hy : ρ y = v) (hv : v.oneCell' = true) (hs : ∀ w, (Go.sizeOf T).run P w = .ok 1 w)
    (hc : (w.cell? p).isSome = true) (hf : w.frozen? p = false) : (execOp ρ o).run P w = .ok .skip (w.setCell p v) := by
  obtain ⟨u, hu⟩ := Option.isSome_iff_exists.1 hc
  have hcells : v.cells = #[v] := by cases v <;> first | rfl | cases hv
  unfold execOp
  rw [ho]
  simp only [hx, hy, Instr.storeAt, Instr.sureAddr, storeVar, Sem.run_bind, Sem.run_pure, Result.andThen_ok, hs, hcells]
  have ha : p.add 0 = p := by simp [Addr.add]
  cases v <;> first | (cases hv; done) | simp [storeCells, store, Sem.run, hu, hf, ha, Result.andThen]

theorem run_ixaddr {T E s : Nat} {x y : Operand} {A : Option Addr} {n c : Nat} {k : IntKind} {i : Int} (ho : o.op = .indexAddr T x y) (hx : ρ x = .slice A n c) (hy : ρ y = .int k i)
    (hT : P.underlying T = some (.slice E)) (hs : ∀ w, (Go.sizeOf E).run P w = .ok s w) (h0 : 0 ≤ i) (h1 : i < n) (hA : A = none → n = 0) :
    (execOp ρ o).run P w = .ok (.value (.pointer (A.map fun p => p.add (i.toNat * s)))) w := by
  cases A with
  | none => have := hA rfl; omega
  | some p =>
    unfold execOp
    rw [ho]
    simp only [hx, hy, Instr.indexAt, asIntOf, Sem.run_bind, Sem.run_pure, Result.andThen_ok, run_underlying hT]
    rw [if_pos ⟨h0, h1⟩]
    simp [hs, Result.andThen]

theorem num_nil {k : IntKind} {w : World} {A : Option Addr} {n c : Nat} {l : List Int} (h : NumZ k w (.slice A n c) l) : A = none → n = 0 := by
  rintro rfl
  obtain ⟨A', c', e, _, _, hx⟩ := h
  injection e with e1 e2 e3
  subst e1
  by_cases hne : l = []
  · subst hne; exact e2
  · obtain ⟨g, off, hA, _⟩ := hx hne; cases hA

theorem run_loadix {T : Nat} {x : Operand} {A : Option Addr} {c : Nat} {k : IntKind} {l : List Int} {i v : Int} (ho : o.op = .load T x) (hx : ρ x = .pointer (A.map fun p => p.add (i.toNat * 1)))
    (hT : ∀ w, (isAgg T).run P w = .ok false w) (hv : NumZ k w (.slice A l.length c) l) (hi : ix l i = some v) : (execOp ρ o).run P w = .ok (.value (.int k v)) w := by
  obtain ⟨h0, h1, h2⟩ := ix_in hi
  have hlt : i.toNat < l.length := by omega
  obtain ⟨g, off, rfl, _, hc⟩ := hv.cells (by rintro rfl; simp at hlt)
  refine run_load1 ho (by rw [hx]; rfl) hT ?_
  show w.cell? ((⟨g, off, none⟩ : Addr).add (i.toNat * 1)) = _
  rw [add_flat, Nat.mul_one, hc _ hlt]
  rw [List.getElem?_eq_getElem hlt] at h2
  rw [Option.some.inj h2]

/-- elements of one cell each -/
def infoOk (P : Program) (T : Nat) : Bool := match P.info? T with
  | some i => (match i.zero with | some z => decide (z.cells.size = 1) | none => false) && decide (i.size = 1) && decide (i.bytes ≤ 100)
  | none => false

theorem infoOk_spec {T : Nat} (h : infoOk P T = true) : ∃ i z b, P.info? T = some i ∧ i.zero = some z ∧ i.size = 1 ∧ i.bytes = b ∧ z.cells.size = 1 ∧ b ≤ 100 := by
  unfold infoOk at h
  split at h
  · rename_i i hi
    rw [Bool.and_eq_true, Bool.and_eq_true] at h
    obtain ⟨⟨h1, h2⟩, h3⟩ := h
    split at h1
    · rename_i z hz
      exact ⟨i, z, _, hi, hz, of_decide_eq_true h2, rfl, of_decide_eq_true h1, of_decide_eq_true h3⟩
    · cases h1
  · cases h

/-- append(s, x...) -/
theorem st_append {k : IntKind} {T TS : Nat} {s x : Operand} {A A2 : Option Addr} {c c2 : Nat} {l l2 : List Int}
    (ho : o.op = .call { callee := .builtin .append, args := #[s, x], argTypes := #[TS, TS] }) (hsv : ρ s = .slice A l.length c) (hxv : ρ x = .slice A2 l2.length c2)
    (h : St bs w0 w es) (i : Nat) (hi : es[i]? = some (rowE k T A c l)) (hsrc : NumZ k w (.slice A2 l2.length c2) l2) (hnn : A2 = none → c2 = 0) (hl : l.length + l2.length ≤ 1000000000)
    (hT : P.underlying TS = some (.slice T)) (hz : infoOk P T = true) :
    ∃ v w', (execOp ρ o).run P w = .ok (.value v) w' ∧ ∃ A' c', v = .slice A' (l ++ l2).length c' ∧ St bs w0 w' (es.set i (rowE k T A' c' (l ++ l2))) := by
  obtain ⟨i0, zv, by_, hi0, hz0, hs0, hb0, hz1, hz2⟩ := infoOk_spec hz
  have hown : w.ownsRow 0 T 1 (.slice A l.length c) l.length (l.map (Value.int k)) := h.get i hi
  have hex : ∀ _ : Nat, (execOp ρ o).run P w = ((Builtin.append_ #[TS, TS] o.type #[.slice A l.length c, .slice A2 l2.length c2]).run P w).andThen (fun v w => .ok (.value v) w) := by
    intro _
    unfold execOp
    simp only [ho, resolve, invoke, builtin, Sem.run_bind, Sem.run_pure, Result.andThen_ok, List.map_toArray, List.map_cons, List.map_nil, hsv, hxv]
  have fin : ∀ (v' : Value) (w' : World), (Builtin.append_ #[TS, TS] o.type #[.slice A l.length c, .slice A2 l2.length c2]).run P w = .ok v' w' → w'.ownsRow 0 T 1 v' (l.length + l2.length) (l.map (Value.int k) ++ l2.map (Value.int k)) → w.grownBy w' (Value.slice A l.length c).ownBlock → (v'.ownBlock = (Value.slice A l.length c).ownBlock ∨ v'.ownBlock = some w.heap.size) →
      ∃ v w', (execOp ρ o).run P w = .ok (.value v) w' ∧ ∃ A' c', v = .slice A' (l ++ l2).length c' ∧ St bs w0 w' (es.set i (rowE k T A' c' (l ++ l2))) := by
    intro v' w' hr hown' hgrow hor
    have hlen : (l ++ l2).length = l.length + l2.length := List.length_append
    have hmap : (l ++ l2).map (Value.int k) = l.map (Value.int k) ++ l2.map (Value.int k) := List.map_append
    obtain ⟨A', c', rfl⟩ : ∃ A' c', v' = .slice A' (l ++ l2).length c' := by
      rcases hown'.2 with ⟨rfl, h0⟩ | ⟨g, cap, cur, rfl, _⟩
      · exact ⟨none, 0, by rw [hlen, h0]⟩
      · exact ⟨_, cap, by rw [hlen]⟩
    refine ⟨_, w', by rw [hex 0, hr]; rfl, A', c', rfl, ?_⟩
    refine h.turn i hi ⟨hgrow.os, hgrow.tape, hgrow.output⟩ hgrow.size (fun k hk hne => hgrow.block k hk (fun e => hne (by simp [rowE, rowG, ← e]))) _ ?_ (fun k hk => ?_)
    · show w'.ownsRow 0 T 1 _ _ _
      rw [hmap]
      have e : (l ++ l2).length = l.length + l2.length := hlen
      rw [e] at hown' ⊢
      exact hown'
    · simp only [rowE, rowG, Option.mem_toList] at hk ⊢
      rcases hor with e | e
      · exact .inl (by rw [← e]; exact hk)
      · rw [e] at hk
        have hk2 : w.heap.size = k := by simpa using hk
        refine .inr ⟨by omega, ?_⟩
        rcases hown'.2 with ⟨e2, _⟩ | ⟨g, cap, cur, e2, _, hg, _⟩
        · rw [e2] at e; cases e
        · rw [e2] at e
          simp [Value.ownBlock] at e
          have := own_row_lt hg
          omega
  by_cases hne : l2 = []
  · subst hne
    cases A2 with
    | none =>
      have hc2 := hnn rfl
      subst hc2
      have hr := run_append_owned_none (P := P) (w := w) 0 TS o.type T i0 1 hT hi0 _ _ _ hown
      exact fin _ _ hr (by simpa using hown) ⟨rfl, rfl, rfl, Nat.le_refl _, fun _ _ _ => rfl⟩ (.inl rfl)
    | some ad =>
      obtain ⟨v', w', hr, h2, h3, h4, h5⟩ := run_append_own_at (P := P) w 0 TS o.type T i0 zv 1 by_ hT hi0 hz0 hs0 hb0 hz1 (by decide) _ _ _ hown ad 0 c2 [] rfl (by simp) (by simp) (by unfold maxLen; omega) (by
        have : (l.length + 0) * by_ ≤ 1000000000 * 100 := Nat.mul_le_mul (by omega) hz2
        omega) (Nat.zero_le _)
      exact fin v' w' hr (by simpa using h2) h3 h5
  · obtain ⟨g, off, rfl, hg, hcell⟩ := hsrc.cells hne
    obtain ⟨v', w', hr, h2, h3, h4, h5⟩ := run_append_own_at (P := P) w 0 TS o.type T i0 zv 1 by_ hT hi0 hz0 hs0 hb0 hz1 (by decide) _ _ _ hown ⟨g, off, none⟩ l2.length c2 (l2.map (Value.int k)) (by simp) (by
      intro j u hj
      rw [add_flat]
      have hj' : j < l2.length := by
        rcases Nat.lt_or_ge j l2.length with h' | h'
        · exact h'
        · simp [h'] at hj
      rw [hcell j hj']
      simpa [hj'] using hj) (by
      intro u hu
      obtain ⟨d, _, rfl⟩ := List.mem_map.1 hu
      rfl) (by unfold maxLen; omega) (by
        have : (l.length + l2.length) * by_ ≤ 1000000000 * 100 := Nat.mul_le_mul (by omega) hz2
        omega) (Nat.zero_le _)
    exact fin v' w' hr h2 h3 h5

theorem st_made (k : IntKind) (T : Nat) (l : List Int) (h : St bs w0 w es) (hl : l.length ≤ 1000000000) (hr : (execOp ρ o).run P w = .ok (.value (.slice (some ⟨w.heap.size, 0, none⟩) l.length l.length)) (w.alloc (.cells (l.map (Value.int k)).toArray T))) :
    ∃ v w', (execOp ρ o).run P w = .ok (.value v) w' ∧ (v = .slice (some ⟨w.heap.size, 0, none⟩) l.length l.length ∧ St bs w0 w' (es ++ [rowE k T (some ⟨w.heap.size, 0, none⟩) l.length l])) :=
  ⟨_, _, hr, rfl, h.made k T l hl⟩

theorem st_boxed (cs : List Value) (T : Nat) (h : St bs w0 w es) (hr : (execOp ρ o).run P w = .ok (.value (.pointer (some ⟨w.heap.size, 0, none⟩))) (w.alloc (.cells cs.toArray T))) :
    ∃ v w', (execOp ρ o).run P w = .ok (.value v) w' ∧ (v = .pointer (some ⟨w.heap.size, 0, none⟩) ∧ St bs w0 w' (es ++ [boxE w.heap.size cs T])) :=
  ⟨_, _, hr, rfl, h.boxed cs T⟩

theorem St.box {g T : Nat} {cs : List Value} (h : St bs w0 w es) (i : Nat) (hi : es[i]? = some (boxE g cs T)) (j : Nat) {v : Value} (hj : cs[j]? = some v) : w.cell? ⟨g, j, none⟩ = some v := by
  have hg : w.heap[g]? = some (.cells cs.toArray T (0, 0)) := h.get i hi
  rw [cell_of_row w g j _ T (0, 0) hg]
  simpa using hj

theorem frozen_none {g : Nat} {cs : Array Value} {T j : Nat} (hg : w.heap[g]? = some (.cells cs T (0, 0))) : w.frozen? ⟨g, j, none⟩ = false := by
  simp [World.frozen?, hg]

/-- a store into a box -/
theorem st_store {T TB g j : Nat} {x y : Operand} {v : Value} {cs : List Value} (ho : o.op = .store T x y) (hx : ρ x = .pointer (some ⟨g, j, none⟩)) (hy : ρ y = v) (hv : v.oneCell' = true) (hs : ∀ w, (Go.sizeOf T).run P w = .ok 1 w)
    (h : St bs w0 w es) (i : Nat) (hi : es[i]? = some (boxE g cs TB)) (hj : j < cs.length) :
    ∃ w', (execOp ρ o).run P w = .ok .skip w' ∧ St bs w0 w' (es.set i (boxE g (cs.set j v) TB)) := by
  refine ⟨w.setCell ⟨g, j, none⟩ v, ?_⟩
  have hg : w.heap[g]? = some (.cells cs.toArray TB (0, 0)) := h.get i hi
  have hc : w.cell? ⟨g, j, none⟩ = some cs[j] := h.box i hi j (List.getElem?_eq_getElem hj)
  refine ⟨run_store1 ho hx hy hv hs (by rw [hc]; rfl) (frozen_none hg), ?_⟩
  refine h.turn (w' := w.setCell ⟨g, j, none⟩ v) i hi ⟨rfl, rfl, rfl⟩ (by simp [World.setCell]) (fun k _ hne => Below.heap_setCell w ⟨g, j, none⟩ v k (by simpa [boxE] using hne)) _ ?_ (fun k hk => .inl hk)
  show (w.setCell ⟨g, j, none⟩ v).heap[g]? = _
  simp [World.setCell, Array.getElem?_modify, hg]

/-- a whole struct stored into a box -/
theorem st_storeG {T TB g : Nat} {x y : Operand} {cs ds : List Value} (ho : o.op = .store T x y) (hx : ρ x = .pointer (some ⟨g, 0, none⟩)) (hy : ρ y = .agg ds.toArray) (hT : (P.info? T).map (·.size) = some ds.length) (hl : cs.length = ds.length) (h1 : ds.all (·.oneCell') = true)
    (h : St bs w0 w es) (i : Nat) (hi : es[i]? = some (boxE g cs TB)) :
    ∃ w', (execOp ρ o).run P w = .ok .skip w' ∧ St bs w0 w' (es.set i (boxE g ds TB)) := by
  have hg : w.heap[g]? = some (.cells cs.toArray TB (0, 0)) := h.get i hi
  have hr := run_storeVar_row (P := P) w g TB T cs.toArray ds.toArray hg (by simpa using hT) (by simpa using hl) (by simpa using h1)
  refine ⟨w.setRow g ds.toArray, ?_, ?_⟩
  · unfold execOp
    rw [ho]
    simp only [hx, hy, Instr.storeAt, Instr.sureAddr, Sem.run_bind, Sem.run_pure, Result.andThen_ok, hr]
  · exact h.turn (w' := w.setRow g ds.toArray) i hi ⟨rfl, rfl, rfl⟩ (by simp) (fun k _ hne => setRow_other w g k _ (by simpa [boxE] using hne)) _ (setRow_heap w g cs.toArray _ TB _ hg) (fun k hk => .inl hk)

/-- a store into a row of one's own -/
theorem st_storeix {k : IntKind} {T TS : Nat} {x y : Operand} {A : Option Addr} {c : Nat} {l l' : List Int} {i v : Int} (ho : o.op = .store TS x y) (hx : ρ x = .pointer (A.map fun p => p.add (i.toNat * 1))) (hy : ρ y = .int k v) (hs : ∀ w, (Go.sizeOf TS).run P w = .ok 1 w)
    (h : St bs w0 w es) (m : Nat) (hm : es[m]? = some (rowE k T A c l)) (hi : setx l i v = some l') :
    ∃ w', (execOp ρ o).run P w = .ok .skip w' ∧ St bs w0 w' (es.set m (rowE k T A c l')) := by
  obtain ⟨h0, h1, rfl⟩ := setx_in hi
  have hlt : i.toNat < l.length := by omega
  have hrow : w.ownsRow 0 T 1 (.slice A l.length c) l.length (l.map (Value.int k)) := h.get m hm
  rcases hrow.2 with ⟨_, h2⟩ | ⟨g, cap, cur, e, hb, hg, hc, hmx, hcs, ht⟩
  · omega
  · injection e with e1 e2 e3
    subst e1; subst e3
    have hx' : ρ x = .pointer (some ⟨g, i.toNat, none⟩) := by
      rw [hx]
      show Value.pointer (some ((⟨g, 0, none⟩ : Addr).add (i.toNat * 1))) = _
      rw [add_flat, Nat.mul_one, Nat.zero_add]
    have hcell : w.cell? ⟨g, i.toNat, none⟩ = cur[i.toNat]? := cell_of_row w g _ _ _ _ hg
    have hsz : i.toNat < cur.size := by omega
    refine ⟨w.setCell ⟨g, i.toNat, none⟩ (.int k v), run_store1 ho hx' hy rfl hs (by rw [hcell, Array.getElem?_eq_getElem hsz]; rfl) (frozen_none hg), ?_⟩
    refine h.turn (w' := w.setCell ⟨g, i.toNat, none⟩ (.int k v)) m hm ⟨rfl, rfl, rfl⟩ (by simp [World.setCell]) (fun q _ hne => Below.heap_setCell w ⟨g, i.toNat, none⟩ _ q (by simpa [rowE, rowG, Value.ownBlock] using hne)) _ ?_ (fun q hq => .inl hq)
    show (w.setCell ⟨g, i.toNat, none⟩ (.int k v)).ownsRow 0 T 1 (.slice (some ⟨g, 0, none⟩) (l.set i.toNat v).length c) (l.set i.toNat v).length ((l.set i.toNat v).map (Value.int k))
    rw [List.length_set, List.map_set]
    refine ⟨by simp, .inr ⟨g, c, cur.setIfInBounds i.toNat (.int k v), rfl, hb, by simp [World.setCell, Array.getElem?_modify, hg], hc, hmx, by simpa using hcs, ?_⟩⟩
    rw [Array.toList_setIfInBounds, List.take_set, ht]

theorem made_getG (z : Value) (n j : Nat) (h : j < n) : (madeCells #[z] n)[j]? = some z := by
  rw [Array.getElem?_eq_getElem (by simp [size_madeCells]; exact h)]
  simp [madeCells, Nat.mod_one]

/-- make([]T, n) -/
theorem st_make {k : IntKind} {T TS by_ : Nat} {x y : Operand} {n : Int} {l : List Int} (ho : o.op = .makeSlice TS x y) (hx : ρ x = .int .i64 n) (hy : ρ y = .int .i64 n) (hT : P.underlying TS = some (.slice T))
    (hinfo : (P.info? T).map (fun i => (i.zero, i.size, i.bytes)) = some (some (.int k 0), 1, by_)) (hby : (decide (by_ ≤ 100)) = true) (h : St bs w0 w es) (hl : mkx n = some l) :
    ∃ v w', (execOp ρ o).run P w = .ok (.value v) w' ∧ ∃ A' c', v = .slice A' l.length c' ∧ St bs w0 w' (es ++ [rowE k T A' c' l]) := by
  obtain ⟨h0, h1, rfl⟩ := mkx_in hl
  obtain ⟨m, rfl⟩ : ∃ m : Nat, n = (m : Int) := ⟨n.toNat, by omega⟩
  have hb := of_decide_eq_true hby
  have hbm : by_ * m ≤ 100 * 1000000000 := Nat.mul_le_mul hb (by omega)
  have hr := run_make_row' (P := P) TS T (.int k 0) by_ hT hinfo rfl .i64 .i64 m (by omega) (by omega) w
  have hlen : (List.replicate ((m : Int).toNat) (0 : Int)).length = m := by simp
  have hcells : madeCells #[Value.int k 0] m = ((List.replicate ((m : Int).toNat) (0 : Int)).map (Value.int k)).toArray := by
    apply Array.ext_getElem?
    intro j
    by_cases hj : j < m
    · rw [made_getG _ m j hj]; simp [hj]
    · rw [Array.getElem?_eq_none (by simp [size_madeCells]; omega), Array.getElem?_eq_none (by simp; omega)]
  refine ⟨.slice (some ⟨w.heap.size, 0, none⟩) m m, w.alloc (.cells (madeCells #[Value.int k 0] m) T), ?_, some ⟨w.heap.size, 0, none⟩, m, by rw [hlen], ?_⟩
  · unfold execOp
    rw [ho]
    simp only [hx, hy, Sem.run_bind, hr, Result.andThen_ok, Sem.run_pure]
  · rw [hcells]
    have := h.made k T (List.replicate ((m : Int).toNat) (0 : Int)) (by rw [hlen]; omega)
    rw [hlen] at this
    exact this

theorem run_quo {k : IntKind} {op : BinOp} {T T' : Nat} {x y : Operand} {a b : Int} (ho : o.op = .binOp op T x y T') (hx : ρ x = .int k a) (hy : ρ y = .int k b) (hop : op = .quo) (hb : ¬ b = 0) :
    (execOp ρ o).run P w = .ok (.value (.int k (k.wrap (a.tdiv b)))) w := by
  subst hop
  unfold execOp
  rw [ho]
  simp [hx, hy, binOp, Op.intDiv, hb, eqGuard]

theorem ne_yes {x y : Int} (h : x ≠ y) : (x != y) = true := by simpa using h
theorem ne_no {x y : Int} (h : ¬ x ≠ y) : (x != y) = false := by simpa using h

theorem run_conv {S D : Nat} {x : Operand} {v : Value} {s : ByteArray} (ho : o.op = .convert S D x) (hx : ρ x = v) (hc : (convert S D v).run P w = .ok (.string s) w) : (execOp ρ o).run P w = .ok (.value (.string s)) w := by
  unfold execOp
  rw [ho]
  simp only [hx, Sem.run_bind, hc, Result.andThen_ok, Sem.run_pure]

theorem run_shr {k k2 : IntKind} {T T' : Nat} {x y : Operand} {a b : Int} (ho : o.op = .binOp .shr T x y T') (hx : ρ x = .int k a) (hy : ρ y = .int k2 b) (hb : ¬ b < 0) :
    (execOp ρ o).run P w = .ok (.value (.int k (ishr k a b))) w := by
  unfold execOp
  rw [ho]
  simp [hx, hy, binOp, Op.shift, hb, eqGuard, ishr]

theorem run_shl {k k2 : IntKind} {T T' : Nat} {x y : Operand} {a b : Int} (ho : o.op = .binOp .shl T x y T') (hx : ρ x = .int k a) (hy : ρ y = .int k2 b) (hb : ¬ b < 0) :
    (execOp ρ o).run P w = .ok (.value (.int k (ishl k a b))) w := by
  unfold execOp
  rw [ho]
  simp [hx, hy, binOp, Op.shift, hb, eqGuard, ishl]

theorem run_strix {T : Nat} {k : IntKind} {x y : Operand} {s : ByteArray} {i v : Int} (ho : o.op = .index T x y) (hx : ρ x = .string s) (hy : ρ y = .int k i) (hT : P.underlying T = some .string) (hi : ix (strL s) i = some v) :
    (execOp ρ o).run P w = .ok (.value (.int .u8 v)) w := by
  obtain ⟨h0, h1, h2⟩ := ix_in hi
  rw [strL_len] at h1
  have hlt : i.toNat < s.size := by omega
  have hb : s[i.toNat]? = some s[i.toNat] := by simp [hlt]
  have hv : ((s[i.toNat].toNat : Nat) : Int) = v := by
    unfold strL at h2
    rw [List.getElem?_map] at h2
    have : s.data.toList[i.toNat]? = some s[i.toNat] := by
      rw [List.getElem?_eq_getElem (by rw [Array.length_toList]; exact hlt)]; rfl
    rw [this] at h2
    exact Option.some.inj h2
  unfold execOp
  rw [ho]
  simp only [hx, hy, Instr.index, asIntOf, Sem.run_bind, Sem.run_pure, Result.andThen_ok, run_underlying hT]
  rw [if_pos h0, hb]
  simp [← hv, Result.andThen]

def aggD (P : Program) (T : Nat) : Bool := match P.underlying T with | some (.struct _) => true | some (.array _ _) => true | _ => false

theorem res_cell {fn : Func} {p : Tmp} {ty : TypeId} (h : fn.results = #[.cell p ty]) (tmps : Array Value) (w : World) (g : Nat) (t : TypeId) (cs : Array Value) (fr : Nat × Nat)
    (hp : tmps.getD p undef = .pointer (some ⟨g, 0, none⟩)) (hg : w.heap[g]? = some (.cells cs t fr)) (hu : aggD P ty = true) (hi : (P.info? ty).map (·.size) = some cs.size) : (results fn tmps).run P w = .ok (.agg cs) w := by
  unfold aggD at hu
  cases hd : P.underlying ty with
  | none => rw [hd] at hu; cases hu
  | some d => exact results_cell_row h tmps w g t cs fr d hp hg hd (by rw [hd] at hu; cases d <;> simp_all) hi

theorem run_boolE {v0 v : Bool} (hb : v0 = v) (hr : (execOp ρ o).run P w = .ok (.value (.bool v0)) w) : (execOp ρ o).run P w = .ok (.value (.bool v)) w := by rw [hr, hb]


end
end Go.Proofs.YtbdhgjaoojimmaaDoor
