/-
  Rows of tables.
-/
import Derived.Test.YtlpnikolnohcaaaOutP
namespace Go.Proofs.Ytlpnikolnohcaaa
open Go Go.RowKit

/-- a table's cells -/
def cellsT (t : TabL) : List Value := (t.1.map fun x => Value.int .u8 x) ++ [Value.int .i64 t.2.1, Value.int .i64 t.2.2]

theorem cellsT_len {t : TabL} (h : t.1.length = 4) : (cellsT t).length = 6 := by simp [cellsT, h]

theorem flat_len : ∀ (ts : List TabL), (∀ t ∈ ts, t.1.length = 4) → (ts.flatMap cellsT).length = 6 * ts.length
  | [], _ => rfl
  | t :: ts, h => by
    rw [List.flatMap_cons, List.length_append, cellsT_len (h t (by simp)), flat_len ts (fun u hu => h u (by simp [hu])), List.length_cons]
    omega

theorem flat_get : ∀ (ts : List TabL), (∀ t ∈ ts, t.1.length = 4) → ∀ (i j : Nat) (hi : i < ts.length), j < 6 → (ts.flatMap cellsT)[6 * i + j]? = (cellsT ts[i])[j]?
  | [], _, i, j, hi, _ => absurd hi (Nat.not_lt_zero _)
  | t :: ts, h, 0, j, hi, hj => by
    rw [List.flatMap_cons, List.getElem?_append_left (by rw [cellsT_len (h t (by simp))]; omega)]
    simp
  | t :: ts, h, i + 1, j, hi, hj => by
    have h6 := cellsT_len (h t (by simp))
    rw [List.flatMap_cons, List.getElem?_append_right (by omega), h6, show 6 * (i + 1) + j - 6 = 6 * i + j by omega]
    rw [flat_get ts (fun u hu => h u (by simp [hu])) i j (by simpa using hi) hj]
    simp

/-- tables that are there -/
def TabsZ (w : World) (v : Value) (ts : List TabL) : Prop :=
  ∃ A c, v = .slice A ts.length c ∧ ts.length ≤ c ∧ c ≤ 9223372036854775807 ∧ (ts ≠ [] → ∃ g, A = some ⟨g, 0, none⟩ ∧ g < w.heap.size ∧ ∀ (i j : Nat) (hi : i < ts.length), j < 6 → w.cell? ⟨g, 6 * i + j, none⟩ = (cellsT ts[i])[j]?)

theorem TabsZ.below {w w' : World} {v : Value} {ts : List TabL} (h : TabsZ w v ts) (hb : Below w.heap.size w w') : TabsZ w' v ts := by
  obtain ⟨A, c, e, hc, hc2, hx⟩ := h
  refine ⟨A, c, e, hc, hc2, fun hne => ?_⟩
  obtain ⟨g, hA, hg, hcell⟩ := hx hne
  have := hb.size
  exact ⟨g, hA, by omega, fun i j hi hj => by rw [hb.cell (by exact hg)]; exact hcell i j hi hj⟩

theorem infoT : (Try.prog.info? 41).map (fun i => (i.zero, i.size, i.bytes)) = some (some (.agg #[.int .u8 0, .int .u8 0, .int .u8 0, .int .u8 0, .int .i64 0, .int .i64 0]), 6, 24) := by kernel_rfl

/-- a row of tables of one's own -/
def OwnT (B : Nat) (w : World) (v : Value) (ts : List TabL) : Prop := w.ownsRow B 41 6 v ts.length (ts.flatMap cellsT)

theorem OwnT.nil (B : Nat) (w : World) : OwnT B w (.slice none 0 0) [] := World.ownsRow_nil _ _ _ _

theorem ownT_cases {B : Nat} {w : World} {v : Value} {ts : List TabL} (h : OwnT B w v ts) : (∃ A cap, v = .slice A ts.length cap) ∧ ∀ k, v.ownBlock = some k → B ≤ k := by
  have h1 : w.ownsRow B 41 6 v ts.length (ts.flatMap cellsT) := h
  rcases h1.2 with ⟨rfl, h0⟩ | ⟨g, cap, cur, rfl, hb, hg, rest⟩
  · exact ⟨⟨none, 0, by rw [h0]⟩, fun k hk => by simp [Value.ownBlock] at hk⟩
  · exact ⟨⟨_, cap, rfl⟩, fun k hk => by simp [Value.ownBlock] at hk; omega⟩

theorem ownT_stays {w w' : World} {B : Nat} {v : Value} {xs : List TabL} (h : OwnT B w v xs) (hb : Below w.heap.size w w') : OwnT B w' v xs := by
  have h1 : w.ownsRow B 41 6 v xs.length (xs.flatMap cellsT) := h
  refine ⟨h1.1, ?_⟩
  rcases h1.2 with h2 | ⟨g, cap, cur, e, hB, hg, rest⟩
  · exact .inl h2
  · exact .inr ⟨g, cap, cur, e, hB, by rw [hb.block g (own_row_lt hg)]; exact hg, rest⟩

theorem OwnT.read {B : Nat} {w : World} {v : Value} {ts : List TabL} (h : OwnT B w v ts) (h4 : ∀ t ∈ ts, t.1.length = 4) : TabsZ w v ts := by
  have h1 : w.ownsRow B 41 6 v ts.length (ts.flatMap cellsT) := h
  rcases h1.2 with ⟨rfl, h0⟩ | ⟨g, cap, cur, rfl, hb, hg, hc, hm, hs, ht⟩
  · exact ⟨none, 0, by rw [h0], by omega, by omega, fun hne => absurd (List.length_eq_zero_iff.1 h0) hne⟩
  · refine ⟨some ⟨g, 0, none⟩, cap, rfl, hc, by unfold maxLen at hm; omega, fun _ => ⟨g, rfl, own_row_lt hg, fun i j hi hj => ?_⟩⟩
    have hf := flat_get ts h4 i j hi hj
    have hlt : j < (cellsT ts[i]).length := by rw [cellsT_len (h4 _ (List.getElem_mem hi))]; exact hj
    rw [List.getElem?_eq_getElem hlt] at hf ⊢
    have := h1.cells (g := g) rfl (6 * i + j) _ hf
    rwa [add_flat, Nat.zero_add] at this

/-- append(s, x) for a table -/
theorem wp_append_t {ops : Array Oper} {rest : List Oper} {o : Oper} {a : Act} {Q : Exit → Act → World → Prop} {w : World} (hgd : o.guard = none) (s x : Operand)
    (ho : o.op = .call { callee := .builtin .append, args := #[s, x], argTypes := #[24, 24] })
    (B : Nat) (vs : Value) (l1 : List TabL) (hs : a.eval s = vs) (hown : OwnT B w vs l1) (g : Nat) (t : TabL) (ht : t.1.length = 4) (hx : a.eval x = .slice (some ⟨g, 0, none⟩) 1 1) (hcell : ∀ j, j < 6 → w.cell? ⟨g, j, none⟩ = (cellsT t)[j]?) (hl : l1.length ≤ 1000000) (hB : B ≤ w.heap.size)
    (h : ∀ v' w', OwnT B w' v' (l1 ++ [t]) → (∀ w0, Below B w0 w → Below B w0 w') → wpList Try.prog ops Q rest (a.put o.dst v') w') :
    wpList Try.prog ops Q (o :: rest) a w := by
  obtain ⟨i0, hi0I, hz0I, hs0I, hb0I⟩ : ∃ i0, Try.prog.info? 41 = some i0 ∧ i0.zero = some (.agg #[.int .u8 0, .int .u8 0, .int .u8 0, .int .u8 0, .int .i64 0, .int .i64 0]) ∧ i0.size = 6 ∧ i0.bytes = 24 := by
    have := infoT
    cases hq : Try.prog.info? 41 with
    | none => rw [hq] at this; cases this
    | some i0 =>
      rw [hq] at this
      simp only [Option.map_some, Option.some.injEq, Prod.mk.injEq] at this
      exact ⟨i0, rfl, this.1, this.2.1, this.2.2⟩
  have hge := (ownT_cases hown).2
  refine wpList_append_own_at (P := Try.prog) w hgd s x _ ho B 41 i0 (.agg #[.int .u8 0, .int .u8 0, .int .u8 0, .int .u8 0, .int .i64 0, .int .i64 0]) 6 24 Try.underlying24 hi0I hz0I hs0I hb0I rfl (by decide) _ _ _ hs hown ⟨g, 0, none⟩ 1 1 (cellsT t) hx (by rw [cellsT_len ht]) ?_ ?_ (by unfold maxLen; omega) (by omega) hB ?_
  · intro j u hj
    have hj6 : j < 6 := by
      rcases Nat.lt_or_ge j 6 with h' | h'
      · exact h'
      · rw [List.getElem?_eq_none (by rw [cellsT_len ht]; exact h')] at hj; cases hj
    rw [add_flat, Nat.zero_add, hcell j hj6]
    exact hj
  · intro u hu
    unfold cellsT at hu
    rcases List.mem_append.1 hu with hu | hu
    · obtain ⟨d, _, rfl⟩ := List.mem_map.1 hu; rfl
    · rcases List.mem_cons.1 hu with rfl | hu
      · rfl
      · obtain rfl := List.mem_singleton.1 hu; rfl
  · intro v' w' hown' hgrow _ _
    exact h v' w' (by unfold OwnT; rw [List.length_append, List.flatMap_append]; simpa using hown') (fun w0 hb => hb.grown hgrow hB (fun k hk => hge k hk))

theorem infoU : (Try.prog.info? 62).map (fun i => (i.zero, i.size, i.bytes)) = some (some (.agg #[.int .u8 0, .int .u8 0, .int .u8 0, .int .u8 0, .int .i64 0, .int .i64 0]), 6, 24) := by kernel_rfl

/-- a row of tables of one's own -/
def OwnU (B : Nat) (w : World) (v : Value) (ts : List TabL) : Prop := w.ownsRow B 62 6 v ts.length (ts.flatMap cellsT)

theorem OwnU.nil (B : Nat) (w : World) : OwnU B w (.slice none 0 0) [] := World.ownsRow_nil _ _ _ _

theorem ownU_cases {B : Nat} {w : World} {v : Value} {ts : List TabL} (h : OwnU B w v ts) : (∃ A cap, v = .slice A ts.length cap) ∧ ∀ k, v.ownBlock = some k → B ≤ k := by
  have h1 : w.ownsRow B 62 6 v ts.length (ts.flatMap cellsT) := h
  rcases h1.2 with ⟨rfl, h0⟩ | ⟨g, cap, cur, rfl, hb, hg, rest⟩
  · exact ⟨⟨none, 0, by rw [h0]⟩, fun k hk => by simp [Value.ownBlock] at hk⟩
  · exact ⟨⟨_, cap, rfl⟩, fun k hk => by simp [Value.ownBlock] at hk; omega⟩

theorem ownU_stays {w w' : World} {B : Nat} {v : Value} {xs : List TabL} (h : OwnU B w v xs) (hb : Below w.heap.size w w') : OwnU B w' v xs := by
  have h1 : w.ownsRow B 62 6 v xs.length (xs.flatMap cellsT) := h
  refine ⟨h1.1, ?_⟩
  rcases h1.2 with h2 | ⟨g, cap, cur, e, hB, hg, rest⟩
  · exact .inl h2
  · exact .inr ⟨g, cap, cur, e, hB, by rw [hb.block g (own_row_lt hg)]; exact hg, rest⟩

theorem OwnU.read {B : Nat} {w : World} {v : Value} {ts : List TabL} (h : OwnU B w v ts) (h4 : ∀ t ∈ ts, t.1.length = 4) : TabsZ w v ts := by
  have h1 : w.ownsRow B 62 6 v ts.length (ts.flatMap cellsT) := h
  rcases h1.2 with ⟨rfl, h0⟩ | ⟨g, cap, cur, rfl, hb, hg, hc, hm, hs, ht⟩
  · exact ⟨none, 0, by rw [h0], by omega, by omega, fun hne => absurd (List.length_eq_zero_iff.1 h0) hne⟩
  · refine ⟨some ⟨g, 0, none⟩, cap, rfl, hc, by unfold maxLen at hm; omega, fun _ => ⟨g, rfl, own_row_lt hg, fun i j hi hj => ?_⟩⟩
    have hf := flat_get ts h4 i j hi hj
    have hlt : j < (cellsT ts[i]).length := by rw [cellsT_len (h4 _ (List.getElem_mem hi))]; exact hj
    rw [List.getElem?_eq_getElem hlt] at hf ⊢
    have := h1.cells (g := g) rfl (6 * i + j) _ hf
    rwa [add_flat, Nat.zero_add] at this

/-- append(s, x) for a table -/
theorem wp_append_u {ops : Array Oper} {rest : List Oper} {o : Oper} {a : Act} {Q : Exit → Act → World → Prop} {w : World} (hgd : o.guard = none) (s x : Operand)
    (ho : o.op = .call { callee := .builtin .append, args := #[s, x], argTypes := #[28, 28] })
    (B : Nat) (vs : Value) (l1 : List TabL) (hs : a.eval s = vs) (hown : OwnU B w vs l1) (g : Nat) (t : TabL) (ht : t.1.length = 4) (hx : a.eval x = .slice (some ⟨g, 0, none⟩) 1 1) (hcell : ∀ j, j < 6 → w.cell? ⟨g, j, none⟩ = (cellsT t)[j]?) (hl : l1.length ≤ 1000000) (hB : B ≤ w.heap.size)
    (h : ∀ v' w', OwnU B w' v' (l1 ++ [t]) → (∀ w0, Below B w0 w → Below B w0 w') → wpList Try.prog ops Q rest (a.put o.dst v') w') :
    wpList Try.prog ops Q (o :: rest) a w := by
  obtain ⟨i0, hi0I, hz0I, hs0I, hb0I⟩ : ∃ i0, Try.prog.info? 62 = some i0 ∧ i0.zero = some (.agg #[.int .u8 0, .int .u8 0, .int .u8 0, .int .u8 0, .int .i64 0, .int .i64 0]) ∧ i0.size = 6 ∧ i0.bytes = 24 := by
    have := infoU
    cases hq : Try.prog.info? 62 with
    | none => rw [hq] at this; cases this
    | some i0 =>
      rw [hq] at this
      simp only [Option.map_some, Option.some.injEq, Prod.mk.injEq] at this
      exact ⟨i0, rfl, this.1, this.2.1, this.2.2⟩
  have hge := (ownU_cases hown).2
  refine wpList_append_own_at (P := Try.prog) w hgd s x _ ho B 62 i0 (.agg #[.int .u8 0, .int .u8 0, .int .u8 0, .int .u8 0, .int .i64 0, .int .i64 0]) 6 24 Try.underlying28 hi0I hz0I hs0I hb0I rfl (by decide) _ _ _ hs hown ⟨g, 0, none⟩ 1 1 (cellsT t) hx (by rw [cellsT_len ht]) ?_ ?_ (by unfold maxLen; omega) (by omega) hB ?_
  · intro j u hj
    have hj6 : j < 6 := by
      rcases Nat.lt_or_ge j 6 with h' | h'
      · exact h'
      · rw [List.getElem?_eq_none (by rw [cellsT_len ht]; exact h')] at hj; cases hj
    rw [add_flat, Nat.zero_add, hcell j hj6]
    exact hj
  · intro u hu
    unfold cellsT at hu
    rcases List.mem_append.1 hu with hu | hu
    · obtain ⟨d, _, rfl⟩ := List.mem_map.1 hu; rfl
    · rcases List.mem_cons.1 hu with rfl | hu
      · rfl
      · obtain rfl := List.mem_singleton.1 hu; rfl
  · intro v' w' hown' hgrow _ _
    exact h v' w' (by unfold OwnU; rw [List.length_append, List.flatMap_append]; simpa using hown') (fun w0 hb => hb.grown hgrow hB (fun k hk => hge k hk))
end Go.Proofs.Ytlpnikolnohcaaa
