/-
  Rows of names and of bodies of one's own.
-/
import Derived.Test.YtlpnikolnohcaaaJsz
import Derived.Test.YtlpnikolnohcaaaRowT
import Derived.Test.YtlpnikolnohcaaaSumP
namespace Go.Proofs.Ytlpnikolnohcaaa
open Go Go.RowKit

def cellsG (t : List Int) : List Value := t.map fun x => Value.int .u8 x

theorem flatG_get : ∀ (ts : List (List Int)), (∀ t ∈ ts, t.length = 4) → ∀ (i j : Nat) (hi : i < ts.length), j < 4 → (ts.flatMap cellsG)[4 * i + j]? = (cellsG ts[i])[j]?
  | [], _, i, j, hi, _ => absurd hi (Nat.not_lt_zero _)
  | t :: ts, h, 0, j, hi, hj => by
    rw [List.flatMap_cons, List.getElem?_append_left (by unfold cellsG; rw [List.length_map, h t (by simp)]; omega)]
    simp
  | t :: ts, h, i + 1, j, hi, hj => by
    have h4 : (cellsG t).length = 4 := by unfold cellsG; rw [List.length_map, h t (by simp)]
    rw [List.flatMap_cons, List.getElem?_append_right (by omega), h4, show 4 * (i + 1) + j - 4 = 4 * i + j by omega]
    rw [flatG_get ts (fun u hu => h u (by simp [hu])) i j (by simpa using hi) hj]
    simp

theorem infoG : (Try.prog.info? 39).map (fun i => (i.zero, i.size, i.bytes)) = some (some (.agg #[.int .u8 0, .int .u8 0, .int .u8 0, .int .u8 0]), 4, 4) := by kernel_rfl
theorem infoS : (Try.prog.info? 22).map (fun i => (i.zero, i.size, i.bytes)) = some (some (.slice none 0 0), 1, 24) := by kernel_rfl

/-- a row of names of one's own -/
def OwnG (B : Nat) (w : World) (v : Value) (ts : List (List Int)) : Prop := w.ownsRow B 39 4 v ts.length (ts.flatMap cellsG)
/-- a row of bodies of one's own -/
def OwnS (B : Nat) (w : World) (v : Value) (vs : List Value) : Prop := w.ownsRow B 22 1 v vs.length vs

theorem OwnG.nil (B : Nat) (w : World) : OwnG B w (.slice none 0 0) [] := World.ownsRow_nil _ _ _ _
theorem OwnS.nil (B : Nat) (w : World) : OwnS B w (.slice none 0 0) [] := World.ownsRow_nil _ _ _ _

theorem ownG_cases {B : Nat} {w : World} {v : Value} {ts : List (List Int)} (h : OwnG B w v ts) : (∃ A cap, v = .slice A ts.length cap) ∧ ∀ k, v.ownBlock = some k → B ≤ k := by
  have h1 : w.ownsRow B 39 4 v ts.length (ts.flatMap cellsG) := h
  rcases h1.2 with ⟨rfl, h0⟩ | ⟨g, cap, cur, rfl, hb, hg, rest⟩
  · exact ⟨⟨none, 0, by rw [h0]⟩, fun k hk => by simp [Value.ownBlock] at hk⟩
  · exact ⟨⟨_, cap, rfl⟩, fun k hk => by simp [Value.ownBlock] at hk; omega⟩

theorem ownS_cases {B : Nat} {w : World} {v : Value} {vs : List Value} (h : OwnS B w v vs) : (∃ A cap, v = .slice A vs.length cap) ∧ ∀ k, v.ownBlock = some k → B ≤ k := by
  have h1 : w.ownsRow B 22 1 v vs.length vs := h
  rcases h1.2 with ⟨rfl, h0⟩ | ⟨g, cap, cur, rfl, hb, hg, rest⟩
  · exact ⟨⟨none, 0, by rw [h0]⟩, fun k hk => by simp [Value.ownBlock] at hk⟩
  · exact ⟨⟨_, cap, rfl⟩, fun k hk => by simp [Value.ownBlock] at hk; omega⟩

theorem ownG_stays {w w' : World} {B : Nat} {v : Value} {xs : List (List Int)} (h : OwnG B w v xs) (hb : Below w.heap.size w w') : OwnG B w' v xs := by
  have h1 : w.ownsRow B 39 4 v xs.length (xs.flatMap cellsG) := h
  refine ⟨h1.1, ?_⟩
  rcases h1.2 with h2 | ⟨g, cap, cur, e, hB, hg, rest⟩
  · exact .inl h2
  · exact .inr ⟨g, cap, cur, e, hB, by rw [hb.block g (own_row_lt hg)]; exact hg, rest⟩

theorem ownS_stays {w w' : World} {B : Nat} {v : Value} {xs : List Value} (h : OwnS B w v xs) (hb : Below w.heap.size w w') : OwnS B w' v xs := by
  have h1 : w.ownsRow B 22 1 v xs.length xs := h
  refine ⟨h1.1, ?_⟩
  rcases h1.2 with h2 | ⟨g, cap, cur, e, hB, hg, rest⟩
  · exact .inl h2
  · exact .inr ⟨g, cap, cur, e, hB, by rw [hb.block g (own_row_lt hg)]; exact hg, rest⟩

theorem ownG_other {w w' : World} {B : Nat} {v : Value} {xs : List (List Int)} (h : OwnG B w v xs) (hk : ∀ k, v.ownBlock = some k → w'.heap[k]? = w.heap[k]?) : OwnG B w' v xs := by
  have h1 : w.ownsRow B 39 4 v xs.length (xs.flatMap cellsG) := h
  refine ⟨h1.1, ?_⟩
  rcases h1.2 with h2 | ⟨g, cap, cur, e, hB, hg, rest⟩
  · exact .inl h2
  · exact .inr ⟨g, cap, cur, e, hB, by rw [hk g (by rw [e]; simp [Value.ownBlock])]; exact hg, rest⟩

theorem ownS_other {w w' : World} {B : Nat} {v : Value} {xs : List Value} (h : OwnS B w v xs) (hk : ∀ k, v.ownBlock = some k → w'.heap[k]? = w.heap[k]?) : OwnS B w' v xs := by
  have h1 : w.ownsRow B 22 1 v xs.length xs := h
  refine ⟨h1.1, ?_⟩
  rcases h1.2 with h2 | ⟨g, cap, cur, e, hB, hg, rest⟩
  · exact .inl h2
  · exact .inr ⟨g, cap, cur, e, hB, by rw [hk g (by rw [e]; simp [Value.ownBlock])]; exact hg, rest⟩

theorem ownG_lt {w : World} {B : Nat} {v : Value} {xs : List (List Int)} (h : OwnG B w v xs) : ∀ k, v.ownBlock = some k → k < w.heap.size := by
  have h1 : w.ownsRow B 39 4 v xs.length (xs.flatMap cellsG) := h
  intro k hk
  rcases h1.2 with ⟨rfl, _⟩ | ⟨g, cap, cur, rfl, hB, hg, rest⟩
  · simp [Value.ownBlock] at hk
  · simp [Value.ownBlock] at hk
    rw [← hk]; exact own_row_lt hg

theorem ownS_lt {w : World} {B : Nat} {v : Value} {xs : List Value} (h : OwnS B w v xs) : ∀ k, v.ownBlock = some k → k < w.heap.size := by
  have h1 : w.ownsRow B 22 1 v xs.length xs := h
  intro k hk
  rcases h1.2 with ⟨rfl, _⟩ | ⟨g, cap, cur, rfl, hB, hg, rest⟩
  · simp [Value.ownBlock] at hk
  · simp [Value.ownBlock] at hk
    rw [← hk]; exact own_row_lt hg

theorem OwnG.read {B : Nat} {w : World} {v : Value} {ts : List (List Int)} (h : OwnG B w v ts) (h4 : ∀ t ∈ ts, t.length = 4 ∧ AllB t) : TagsZ w v ts := by
  have h1 : w.ownsRow B 39 4 v ts.length (ts.flatMap cellsG) := h
  rcases h1.2 with ⟨rfl, h0⟩ | ⟨g, cap, cur, rfl, hb, hg, hc, hm, hs, ht⟩
  · exact ⟨none, 0, by rw [h0], by omega, by omega, h4, fun hne => absurd (List.length_eq_zero_iff.1 h0) hne⟩
  · refine ⟨some ⟨g, 0, none⟩, cap, rfl, hc, by unfold maxLen at hm; omega, h4, fun _ => ⟨g, 0, rfl, own_row_lt hg, fun i j hi hj => ?_⟩⟩
    have hf := flatG_get ts (fun t ht => (h4 t ht).1) i j hi hj
    have h4i := (h4 _ (List.getElem_mem hi)).1
    have e : (cellsG ts[i])[j]? = some (.int .u8 (ts[i].getD j 0)) := by
      unfold cellsG
      rw [List.getElem?_map, List.getD_eq_getElem?_getD, List.getElem?_eq_getElem (by omega)]
      rfl
    rw [e] at hf
    have := h1.cells (g := g) rfl (4 * i + j) _ hf
    rwa [add_flat, Nat.mul_comm 4 i, ← Nat.add_assoc] at this

theorem OwnS.read {B : Nat} {w : World} {v : Value} {vs : List Value} (h : OwnS B w v vs) (bs : List (List Int)) (hl : vs.length = bs.length) (hb8 : ∀ b ∈ bs, AllB b)
    (hx : ∀ i (hi : i < vs.length) (hi2 : i < bs.length), NumZ .u8 w vs[i] bs[i] ∧ ∀ n c', vs[i] = .slice none n c' → n = 0 ∧ c' = 0) : BodsZ w v bs := by
  have h1 : w.ownsRow B 22 1 v vs.length vs := h
  rcases h1.2 with ⟨rfl, h0⟩ | ⟨g, cap, cur, rfl, hb, hg, hc, hm, hs, ht⟩
  · exact ⟨none, 0, by rw [← hl, h0], by omega, by omega, hb8, fun hne => absurd (List.length_eq_zero_iff.1 (hl ▸ h0)) hne⟩
  · refine ⟨some ⟨g, 0, none⟩, cap, by rw [hl], by omega, by unfold maxLen at hm; omega, hb8, fun _ => ⟨g, 0, rfl, own_row_lt hg, fun i hi => ⟨vs[i]'(by omega), ?_, hx i (by omega) hi⟩⟩⟩
    have := h1.cells (g := g) rfl i _ (List.getElem?_eq_getElem (by omega))
    rwa [add_flat] at this

/-- append(s, x) for a name -/
theorem wp_append_g {ops : Array Oper} {rest : List Oper} {o : Oper} {a : Act} {Q : Exit → Act → World → Prop} {w : World} (hgd : o.guard = none) (s x : Operand)
    (ho : o.op = .call { callee := .builtin .append, args := #[s, x], argTypes := #[34, 34] })
    (B : Nat) (vs : Value) (l1 : List (List Int)) (hs : a.eval s = vs) (hown : OwnG B w vs l1) (g : Nat) (t : List Int) (ht : t.length = 4) (hx : a.eval x = .slice (some ⟨g, 0, none⟩) 1 1) (hcell : ∀ j, j < 4 → w.cell? ⟨g, j, none⟩ = (cellsG t)[j]?) (hl : l1.length ≤ 1000000) (hB : B ≤ w.heap.size)
    (h : ∀ v' w', OwnG B w' v' (l1 ++ [t]) → (∀ w0, Below B w0 w → Below B w0 w') → (v'.ownBlock = vs.ownBlock ∨ v'.ownBlock = some w.heap.size) → (∀ k, k < w.heap.size → some k ≠ vs.ownBlock → w'.heap[k]? = w.heap[k]?) → wpList Try.prog ops Q rest (a.put o.dst v') w') :
    wpList Try.prog ops Q (o :: rest) a w := by
  obtain ⟨i0, hi0I, hz0I, hs0I, hb0I⟩ : ∃ i0, Try.prog.info? 39 = some i0 ∧ i0.zero = some (.agg #[.int .u8 0, .int .u8 0, .int .u8 0, .int .u8 0]) ∧ i0.size = 4 ∧ i0.bytes = 4 := by
    have := infoG
    cases hq : Try.prog.info? 39 with
    | none => rw [hq] at this; cases this
    | some i0 =>
      rw [hq] at this
      simp only [Option.map_some, Option.some.injEq, Prod.mk.injEq] at this
      exact ⟨i0, rfl, this.1, this.2.1, this.2.2⟩
  have hge := (ownG_cases hown).2
  have hc4 : (cellsG t).length = 4 := by unfold cellsG; rw [List.length_map, ht]
  refine wpList_append_own_at (P := Try.prog) w hgd s x _ ho B 39 i0 (.agg #[.int .u8 0, .int .u8 0, .int .u8 0, .int .u8 0]) 4 4 Try.underlying34 hi0I hz0I hs0I hb0I rfl (by decide) _ _ _ hs hown ⟨g, 0, none⟩ 1 1 (cellsG t) hx (by rw [hc4]) ?_ ?_ (by unfold maxLen; omega) (by omega) hB ?_
  · intro j u hj
    have hj4 : j < 4 := by
      rcases Nat.lt_or_ge j 4 with h' | h'
      · exact h'
      · rw [List.getElem?_eq_none (by rw [hc4]; exact h')] at hj; cases hj
    rw [add_flat, Nat.zero_add, hcell j hj4]
    exact hj
  · intro u hu
    unfold cellsG at hu
    obtain ⟨d, _, rfl⟩ := List.mem_map.1 hu; rfl
  · intro v' w' hown' hgrow _ hor
    exact h v' w' (by unfold OwnG; rw [List.length_append, List.flatMap_append]; simpa using hown') (fun w0 hb => hb.grown hgrow hB (fun k hk => hge k hk)) hor (fun k hk hne => hgrow.block k hk hne)

/-- append(s, x) for a body -/
theorem wp_append_s {ops : Array Oper} {rest : List Oper} {o : Oper} {a : Act} {Q : Exit → Act → World → Prop} {w : World} (hgd : o.guard = none) (s x : Operand)
    (ho : o.op = .call { callee := .builtin .append, args := #[s, x], argTypes := #[35, 35] })
    (B : Nat) (vs : Value) (l1 : List Value) (hs : a.eval s = vs) (hown : OwnS B w vs l1) (g : Nat) (u : Value) (hu : ∃ A n c, u = .slice A n c) (hx : a.eval x = .slice (some ⟨g, 0, none⟩) 1 1) (hcell : w.cell? ⟨g, 0, none⟩ = some u) (hl : l1.length ≤ 1000000) (hB : B ≤ w.heap.size)
    (h : ∀ v' w', OwnS B w' v' (l1 ++ [u]) → (∀ w0, Below B w0 w → Below B w0 w') → wpList Try.prog ops Q rest (a.put o.dst v') w') :
    wpList Try.prog ops Q (o :: rest) a w := by
  obtain ⟨i0, hi0I, hz0I, hs0I, hb0I⟩ : ∃ i0, Try.prog.info? 22 = some i0 ∧ i0.zero = some (.slice none 0 0) ∧ i0.size = 1 ∧ i0.bytes = 24 := by
    have := infoS
    cases hq : Try.prog.info? 22 with
    | none => rw [hq] at this; cases this
    | some i0 =>
      rw [hq] at this
      simp only [Option.map_some, Option.some.injEq, Prod.mk.injEq] at this
      exact ⟨i0, rfl, this.1, this.2.1, this.2.2⟩
  have hge := (ownS_cases hown).2
  obtain ⟨A, n, c, rfl⟩ := hu
  refine wpList_append_own_at (P := Try.prog) w hgd s x _ ho B 22 i0 (.slice none 0 0) 1 24 Try.underlying35 hi0I hz0I hs0I hb0I rfl (by decide) _ _ _ hs hown ⟨g, 0, none⟩ 1 1 [.slice A n c] hx rfl ?_ ?_ (by unfold maxLen; omega) (by omega) hB ?_
  · intro j u hj
    match j, hj with
    | 0, hj =>
      rw [add_flat, hcell]
      exact hj
  · intro u hu
    obtain rfl := List.mem_singleton.1 hu; rfl
  · intro v' w' hown' hgrow _ _
    exact h v' w' (by unfold OwnS; rw [List.length_append]; simpa using hown') (fun w0 hb => hb.grown hgrow hB (fun k hk => hge k hk))

/-- append(s, x) for a body, at the operation -/
theorem oper_append_s {o : Oper} {a : Act} {K : Act → World → Prop} {Q : Exit → Act → World → Prop} {w : World} (s x : Operand)
    (ho : o.op = .call { callee := .builtin .append, args := #[s, x], argTypes := #[35, 35] })
    (B : Nat) (vs : Value) (l1 : List Value) (hs : a.eval s = vs) (hown : OwnS B w vs l1) (g : Nat) (u : Value) (hu : ∃ A n c, u = .slice A n c) (hx : a.eval x = .slice (some ⟨g, 0, none⟩) 1 1) (hcell : w.cell? ⟨g, 0, none⟩ = some u) (hl : l1.length ≤ 1000000) (hB : B ≤ w.heap.size)
    (h : ∀ v' w', OwnS B w' v' (l1 ++ [u]) → (∀ w0, Below B w0 w → Below B w0 w') → (v'.ownBlock = vs.ownBlock ∨ v'.ownBlock = some w.heap.size) → (∀ k, k < w.heap.size → some k ≠ vs.ownBlock → w'.heap[k]? = w.heap[k]?) → K (a.put o.dst v') w') : o.wp Try.prog a w K Q := by
  obtain ⟨i0, hi0I, hz0I, hs0I, hb0I⟩ : ∃ i0, Try.prog.info? 22 = some i0 ∧ i0.zero = some (.slice none 0 0) ∧ i0.size = 1 ∧ i0.bytes = 24 := by
    have := infoS
    cases hq : Try.prog.info? 22 with
    | none => rw [hq] at this; cases this
    | some i0 =>
      rw [hq] at this
      simp only [Option.map_some, Option.some.injEq, Prod.mk.injEq] at this
      exact ⟨i0, rfl, this.1, this.2.1, this.2.2⟩
  have hge := (ownS_cases hown).2
  obtain ⟨A, n, c, rfl⟩ := hu
  obtain ⟨v', w', hr, hown', hgrow, _, hor⟩ := run_append_own_at (P := Try.prog) w B 35 o.type 22 i0 (.slice none 0 0) 1 24 Try.underlying35 hi0I hz0I hs0I hb0I rfl (by decide) vs l1.length l1 hown ⟨g, 0, none⟩ 1 1 [.slice A n c] rfl (by
      intro j u hj
      match j, hj with
      | 0, hj =>
        rw [add_flat, hcell]
        exact hj) (by
      intro u hu
      obtain rfl := List.mem_singleton.1 hu; rfl) (by unfold maxLen; omega) (by omega) hB
  unfold Oper.wp execOp
  simp only [ho, resolve, invoke, builtin, Sem.run_bind, Sem.run_pure, Result.andThen_ok, List.map_toArray, List.map_cons, List.map_nil, hs, hx, hr]
  exact h v' w' (by unfold OwnS; rw [List.length_append]; simpa using hown') (fun w0 hb => hb.grown hgrow hB (fun k hk => hge k hk)) hor (fun k hk hne => hgrow.block k hk hne)

/-- .. at a step of a region that draws its order -/
theorem step_append_s {ops : Array Oper} {o : Oper} {a : Act} {K : Act → World → Prop} {Q : Exit → Act → World → Prop} {w : World} {E : Prop} (hgd : o.guard = none) (s x : Operand)
    (ho : o.op = .call { callee := .builtin .append, args := #[s, x], argTypes := #[35, 35] })
    (B : Nat) (vs : Value) (l1 : List Value) (hs : a.eval s = vs) (hown : OwnS B w vs l1) (g : Nat) (u : Value) (hu : ∃ A n c, u = .slice A n c) (hx : a.eval x = .slice (some ⟨g, 0, none⟩) 1 1) (hcell : w.cell? ⟨g, 0, none⟩ = some u) (hl : l1.length ≤ 1000000) (hB : B ≤ w.heap.size)
    (h : ∀ v' w', OwnS B w' v' (l1 ++ [u]) → (∀ w0, Below B w0 w → Below B w0 w') → (v'.ownBlock = vs.ownBlock ∨ v'.ownBlock = some w.heap.size) → (∀ k, k < w.heap.size → some k ≠ vs.ownBlock → w'.heap[k]? = w.heap[k]?) → K (a.put o.dst v') w') :
    if Region.wanted o (yielded ops a.tmps) = true then Oper.wp Try.prog o a w K Q else E := by
  have hw : Region.wanted o (yielded ops a.tmps) = true := by simp [Region.wanted, hgd]
  rw [if_pos hw]
  exact oper_append_s s x ho B vs l1 hs hown g u hu hx hcell hl hB h
end Go.Proofs.Ytlpnikolnohcaaa
