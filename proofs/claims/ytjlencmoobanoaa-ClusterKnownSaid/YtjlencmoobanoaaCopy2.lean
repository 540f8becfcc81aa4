/-
  append to a row of runes of one's own; rows of numbers of one's own, one behind the other.
-/
import Derived.Test.YtjlencmoobanoaaCopy
import Derived.RegionTactic
namespace Go.Proofs.Ytjlencmoobanoaa
open Go Go.RowKit

/-- a row of the call's own that holds these runes -/
def OwnZ (B : Nat) (w : World) (v : Value) (l : List Int) : Prop := w.ownsRow B 21 1 v l.length (l.map fun d : Int => Value.int .i32 d)

theorem OwnZ.nil (B : Nat) (w : World) : OwnZ B w (.slice none 0 0) [] := World.ownsRow_nil _ _ _ _

theorem OwnZ.read {B : Nat} {w : World} {v : Value} {l : List Int} (h : OwnZ B w v l) : RunesZ w v l := runes_read h

theorem ownZ_cases {B : Nat} {w : World} {v : Value} {ds : List Int} (h : OwnZ B w v ds) : (∃ A cap, v = .slice A ds.length cap) ∧ ∀ k, v.ownBlock = some k → B ≤ k := by
  have h1 : w.ownsRow B 21 1 v ds.length (ds.map fun d : Int => Value.int .i32 d) := h
  rcases h1.2 with ⟨rfl, h0⟩ | ⟨g, cap, cur, rfl, hb, hg, rest⟩
  · exact ⟨⟨none, 0, by rw [h0]⟩, fun k hk => by simp [Value.ownBlock] at hk⟩
  · exact ⟨⟨_, cap, rfl⟩, fun k hk => by simp [Value.ownBlock] at hk; omega⟩

theorem ownZ_stays {w w' : World} {B : Nat} {v : Value} {xs : List Int} (h : OwnZ B w v xs) (hb : Below w.heap.size w w') : OwnZ B w' v xs := by
  have h1 : w.ownsRow B 21 1 v xs.length (xs.map fun d : Int => Value.int .i32 d) := h
  refine ⟨h1.1, ?_⟩
  rcases h1.2 with h2 | ⟨g, cap, cur, e, hB, hg, rest⟩
  · exact .inl h2
  · exact .inr ⟨g, cap, cur, e, hB, by rw [hb.block g (own_row_lt hg)]; exact hg, rest⟩

theorem own_base {B B' : Nat} {w : World} {v : Value} {ds : List Nat} (h : OwnI B' w v ds) (hB : B ≤ B') : OwnI B w v ds := by
  have h1 : w.ownsRow B' 3 1 v ds.length (ds.map fun d : Nat => Value.int .i64 (d : Int)) := h
  refine ⟨h1.1, ?_⟩
  rcases h1.2 with h2 | ⟨g, cap, cur, e, hb, rest⟩
  · exact .inl h2
  · exact .inr ⟨g, cap, cur, e, Nat.le_trans hB hb, rest⟩

/-- append(s, l...) -/
theorem wp_append_z {ops : Array Oper} {rest : List Oper} {o : Oper} {a : Act} {Q : Exit → Act → World → Prop} {w : World} (hgd : o.guard = none) (s x : Operand)
    (ho : o.op = .call { callee := .builtin .append, args := #[s, x], argTypes := #[22, 22] })
    (B : Nat) (vs : Value) (l1 : List Int) (hs : a.eval s = vs) (hown : OwnZ B w vs l1) (v : Value) (l : List Int) (hx : a.eval x = v) (hv : RunesZ w v l) (hnn : ∀ n c, v = .slice none n c → n = 0 ∧ c = 0) (hl : l1.length + l.length ≤ 1000000) (hB : B ≤ w.heap.size)
    (h : ∀ v' w', OwnZ B w' v' (l1 ++ l) → (∀ w0, Below B w0 w → Below B w0 w') → wpList Try.prog ops Q rest (a.put o.dst v') w') :
    wpList Try.prog ops Q (o :: rest) a w := by
  obtain ⟨i0, hi0I, hz0I, hs0I, hb0I⟩ : ∃ i0, Try.prog.info? 21 = some i0 ∧ i0.zero = some (.int .i32 0) ∧ i0.size = 1 ∧ i0.bytes = 4 := by
    have := infoRune
    cases hq : Try.prog.info? 21 with
    | none => rw [hq] at this; cases this
    | some i0 =>
      rw [hq] at this
      simp only [Option.map_some, Option.some.injEq, Prod.mk.injEq] at this
      exact ⟨i0, rfl, this.1, this.2.1, this.2.2⟩
  have hge := (ownZ_cases hown).2
  obtain ⟨A, cap, rfl, hcap, hcap2, hc⟩ := hv
  by_cases hne : l = []
  · subst hne
    cases A with
    | none =>
      obtain ⟨_, rfl⟩ := hnn _ _ rfl
      refine wpList_append_own_none (P := Try.prog) hgd s x _ ho B 21 i0 1 Try.underlying22 hi0I _ _ _ hs hown hx ?_
      exact h _ w (by rw [List.append_nil]; exact hown) (fun w0 hb => hb)
    | some ad =>
      refine wpList_append_own_at (P := Try.prog) w hgd s x _ ho B 21 i0 (.int .i32 0) 1 4 Try.underlying22 hi0I hz0I hs0I hb0I rfl (by decide) _ _ _ hs hown ad 0 cap [] hx rfl (by simp) (by simp) (by unfold maxLen; simp at hl; omega) (by simp at hl; omega) hB ?_
      intro v' w' hown' hgrow _ _
      exact h v' w' (by rw [List.append_nil]; simp only [List.append_nil, Nat.add_zero] at hown'; exact hown') (fun w0 hb => hb.grown hgrow hB (fun k hk => hge k hk))
  · obtain ⟨g, off, rfl, hg, hcell⟩ := hc hne
    refine wpList_append_own_at (P := Try.prog) w hgd s x _ ho B 21 i0 (.int .i32 0) 1 4 Try.underlying22 hi0I hz0I hs0I hb0I rfl (by decide) _ _ _ hs hown ⟨g, off, none⟩ l.length cap (l.map fun d : Int => Value.int .i32 d) hx (by simp) ?_ ?_ (by unfold maxLen; omega) (by omega) hB ?_
    · intro j u hj
      rw [add_flat]
      have hj' : j < l.length := by
        rcases Nat.lt_or_ge j l.length with h' | h'
        · exact h'
        · simp [h'] at hj
      rw [hcell j hj']
      simpa [hj'] using hj
    · intro u hu
      obtain ⟨d, _, rfl⟩ := List.mem_map.1 hu
      rfl
    · intro v' w' hown' hgrow _ _
      exact h v' w' (by unfold OwnZ; rw [List.length_append, List.map_append]; exact hown') (fun w0 hb => hb.grown hgrow hB (fun k hk => hge k hk))

/-- append(s, n) for numbers: the one cell lies in a new block -/
theorem wp_append_i {ops : Array Oper} {rest : List Oper} {o : Oper} {a : Act} {Q : Exit → Act → World → Prop} {w : World} (hgd : o.guard = none) (s x : Operand)
    (ho : o.op = .call { callee := .builtin .append, args := #[s, x], argTypes := #[24, 24] })
    (B : Nat) (vs : Value) (l1 : List Nat) (hs : a.eval s = vs) (hown : OwnI B w vs l1) (g n : Nat) (hx : a.eval x = .slice (some ⟨g, 0, none⟩) 1 1) (hcell : w.cell? ⟨g, 0, none⟩ = some (.int .i64 (n : Int))) (hl : l1.length ≤ 1000000) (hB : B ≤ w.heap.size)
    (h : ∀ v' w', OwnI B w' v' (l1 ++ [n]) → (∀ w0, Below B w0 w → Below B w0 w') → (v'.ownBlock = vs.ownBlock ∨ v'.ownBlock = some w.heap.size) → w.heap.size ≤ w'.heap.size → (∀ k, k < w.heap.size → some k ≠ vs.ownBlock → w'.heap[k]? = w.heap[k]?) → wpList Try.prog ops Q rest (a.put o.dst v') w') :
    wpList Try.prog ops Q (o :: rest) a w := by
  obtain ⟨i0, hi0I, hz0I, hs0I, hb0I⟩ : ∃ i0, Try.prog.info? 3 = some i0 ∧ i0.zero = some (.int .i64 0) ∧ i0.size = 1 ∧ i0.bytes = 8 := by
    have := infoInt
    cases hq : Try.prog.info? 3 with
    | none => rw [hq] at this; cases this
    | some i0 =>
      rw [hq] at this
      simp only [Option.map_some, Option.some.injEq, Prod.mk.injEq] at this
      exact ⟨i0, rfl, this.1, this.2.1, this.2.2⟩
  have hge := (own_cases hown).2
  refine wpList_append_own_at (P := Try.prog) w hgd s x _ ho B 3 i0 (.int .i64 0) 1 8 Try.underlying24 hi0I hz0I hs0I hb0I rfl (by decide) _ _ _ hs hown ⟨g, 0, none⟩ 1 1 [.int .i64 (n : Int)] hx rfl ?_ (fun u hu => by obtain rfl := List.mem_singleton.1 hu; rfl) (by unfold maxLen; omega) (by omega) hB ?_
  · intro j u hj
    have hj0 : j = 0 := by
      rcases Nat.lt_or_ge j 1 with h' | h'
      · omega
      · rw [List.getElem?_eq_none (by simpa using h')] at hj; cases hj
    subst hj0
    rw [add_flat, Nat.zero_add, hcell]
    simpa using hj
  · intro v' w' hown' hgrow _ hor
    exact h v' w' (by unfold OwnI; rw [List.length_append, List.map_append]; exact hown') (fun w0 hb => hb.grown hgrow hB (fun k hk => hge k hk)) hor hgrow.size (fun k hk hne => hgrow.block k hk hne)
/-- append(s, l...) at the operation, l not empty -/
theorem oper_append_z {o : Oper} {a : Act} {K : Act → World → Prop} {Q : Exit → Act → World → Prop} {w : World} (s x : Operand)
    (ho : o.op = .call { callee := .builtin .append, args := #[s, x], argTypes := #[22, 22] })
    (B : Nat) (vs : Value) (l1 : List Int) (hs : a.eval s = vs) (hown : OwnZ B w vs l1) (v : Value) (l : List Int) (hx : a.eval x = v) (hv : RunesZ w v l) (hne : l ≠ []) (hl : l1.length + l.length ≤ 1000000) (hB : B ≤ w.heap.size)
    (h : ∀ v' w', OwnZ B w' v' (l1 ++ l) → (∀ w0, Below B w0 w → Below B w0 w') → K (a.put o.dst v') w') : o.wp Try.prog a w K Q := by
  obtain ⟨i0, hi0I, hz0I, hs0I, hb0I⟩ : ∃ i0, Try.prog.info? 21 = some i0 ∧ i0.zero = some (.int .i32 0) ∧ i0.size = 1 ∧ i0.bytes = 4 := by
    have := infoRune
    cases hq : Try.prog.info? 21 with
    | none => rw [hq] at this; cases this
    | some i0 =>
      rw [hq] at this
      simp only [Option.map_some, Option.some.injEq, Prod.mk.injEq] at this
      exact ⟨i0, rfl, this.1, this.2.1, this.2.2⟩
  have hge := (ownZ_cases hown).2
  obtain ⟨A, cap, rfl, hcap, hcap2, hc⟩ := hv
  obtain ⟨g, off, rfl, hg, hcell⟩ := hc hne
  obtain ⟨v', w', hr, hown', hgrow, _⟩ := run_append_own_at (P := Try.prog) w B 22 o.type 21 i0 (.int .i32 0) 1 4 Try.underlying22 hi0I hz0I hs0I hb0I rfl (by decide) vs l1.length (l1.map fun d : Int => Value.int .i32 d) hown ⟨g, off, none⟩ l.length cap (l.map fun d : Int => Value.int .i32 d) (by simp) (by
      intro j u hj
      rw [add_flat]
      have hj' : j < l.length := by
        rcases Nat.lt_or_ge j l.length with h' | h'
        · exact h'
        · simp [h'] at hj
      rw [hcell j hj']
      simpa [hj'] using hj) (by
      intro u hu
      obtain ⟨d, _, rfl⟩ := List.mem_map.1 hu
      rfl) (by unfold maxLen; omega) (by omega) hB
  unfold Oper.wp execOp
  simp only [ho, resolve, invoke, builtin, Sem.run_bind, Sem.run_pure, Result.andThen_ok, List.map_toArray, List.map_cons, List.map_nil, hs, hx, hr]
  exact h v' w' (by unfold OwnZ; rw [List.length_append, List.map_append]; exact hown') (fun w0 hb => hb.grown hgrow hB (fun k hk => hge k hk))

/-- append(s, l...) at a step of a region that draws its order -/
theorem step_append_z {ops : Array Oper} {o : Oper} {a : Act} {K : Act → World → Prop} {Q : Exit → Act → World → Prop} {w : World} {E : Prop} (hgd : o.guard = none) (s x : Operand)
    (ho : o.op = .call { callee := .builtin .append, args := #[s, x], argTypes := #[22, 22] })
    (B : Nat) (vs : Value) (l1 : List Int) (hs : a.eval s = vs) (hown : OwnZ B w vs l1) (v : Value) (l : List Int) (hx : a.eval x = v) (hv : RunesZ w v l) (hne : l ≠ []) (hl : l1.length + l.length ≤ 1000000) (hB : B ≤ w.heap.size)
    (h : ∀ v' w', OwnZ B w' v' (l1 ++ l) → (∀ w0, Below B w0 w → Below B w0 w') → K (a.put o.dst v') w') :
    if Region.wanted o (yielded ops a.tmps) = true then Oper.wp Try.prog o a w K Q else E := by
  have hw : Region.wanted o (yielded ops a.tmps) = true := by simp [Region.wanted, hgd]
  rw [if_pos hw]
  exact oper_append_z s x ho B vs l1 hs hown v l hx hv hne hl hB h
end Go.Proofs.Ytjlencmoobanoaa
