/-
  A copy of a slice of runes, by append; ClusterBounds.
-/
import Derived.Test.YtjlencmoobanoaaRefBounds
import Derived.Test.YtjlencmoobanoaaWorks3
import Derived.Laws.AppendOwnNone
namespace Go.Proofs.Ytjlencmoobanoaa
open Go Go.RowKit

theorem infoRune : (Try.prog.info? 21).map (fun i => (i.zero, i.size, i.bytes)) = some (some (.int .i32 0), 1, 4) := by kernel_rfl

theorem runes_read {B : Nat} {w : World} {v : Value} {l : List Int} (h1 : w.ownsRow B 21 1 v l.length (l.map fun d : Int => Value.int .i32 d)) : RunesZ w v l := by
  rcases h1.2 with ⟨rfl, h0⟩ | ⟨g, cap, cur, rfl, hb, hg, hc, hm, hs, ht⟩
  · exact ⟨none, 0, by rw [h0], by omega, by omega, fun hne => absurd (List.length_eq_zero_iff.1 h0) hne⟩
  · refine ⟨some ⟨g, 0, none⟩, cap, rfl, hc, by unfold maxLen at hm; omega, fun _ => ⟨g, 0, rfl, ?_, fun j hj => ?_⟩⟩
    · rcases Nat.lt_or_ge g w.heap.size with h' | h'
      · exact h'
      · simp [Array.getElem?_eq_none h'] at hg
    · have := h1.cells (g := g) rfl j (.int .i32 l[j]) (by simp [hj])
      rwa [add_flat] at this

/-- append(nil, l...) -/
theorem wp_append_runes {ops : Array Oper} {rest : List Oper} {o : Oper} {a : Act} {Q : Exit → Act → World → Prop} {w : World} (hgd : o.guard = none) (s x : Operand)
    (ho : o.op = .call { callee := .builtin .append, args := #[s, x], argTypes := #[22, 22] })
    (hs : a.eval s = .slice none 0 0) (v : Value) (l : List Int) (hx : a.eval x = v) (hv : RunesZ w v l) (hnn : ∀ n c, v = .slice none n c → n = 0 ∧ c = 0) (hl : l.length ≤ 1000000)
    (h : ∀ v' w', RunesZ w' v' l → Below w.heap.size w w' → wpList Try.prog ops Q rest (a.put o.dst v') w') :
    wpList Try.prog ops Q (o :: rest) a w := by
  obtain ⟨i0, hi0I, hz0I, hs0I, hb0I⟩ : ∃ i0, Try.prog.info? 21 = some i0 ∧ i0.zero = some (.int .i32 0) ∧ i0.size = 1 ∧ i0.bytes = 4 := by
    have := infoRune
    cases hq : Try.prog.info? 21 with
    | none => rw [hq] at this; cases this
    | some i0 =>
      rw [hq] at this
      simp only [Option.map_some, Option.some.injEq, Prod.mk.injEq] at this
      exact ⟨i0, rfl, this.1, this.2.1, this.2.2⟩
  obtain ⟨A, cap, rfl, hcap, hcap2, hc⟩ := hv
  by_cases hne : l = []
  · subst hne
    cases A with
    | none =>
      obtain ⟨_, rfl⟩ := hnn _ _ rfl
      refine wpList_append_own_none (P := Try.prog) hgd s x _ ho w.heap.size 21 i0 1 Try.underlying22 hi0I _ 0 [] hs (World.ownsRow_nil _ _ _ _) hx ?_
      exact h _ w ⟨none, 0, rfl, by simp, by omega, fun hc => absurd rfl hc⟩ (Below.refl _ w)
    | some ad =>
      refine wpList_append_own_at (P := Try.prog) w hgd s x _ ho w.heap.size 21 i0 (.int .i32 0) 1 4 Try.underlying22 hi0I hz0I hs0I hb0I rfl (by decide) _ 0 _ hs (World.ownsRow_nil _ _ _ _) ad 0 cap [] hx rfl (by simp) (by simp) (by unfold maxLen; omega) (by omega) (Nat.le_refl _) ?_
      intro v' w' hown hgrow _ _
      exact h v' w' (runes_read hown) ((Below.refl _ w).grown hgrow (Nat.le_refl _) (fun k hk => by simp [Value.ownBlock] at hk))
  · obtain ⟨g, off, rfl, hg, hcell⟩ := hc hne
    refine wpList_append_own_at (P := Try.prog) w hgd s x _ ho w.heap.size 21 i0 (.int .i32 0) 1 4 Try.underlying22 hi0I hz0I hs0I hb0I rfl (by decide) _ 0 _ hs (World.ownsRow_nil _ _ _ _) ⟨g, off, none⟩ l.length cap (l.map fun d : Int => Value.int .i32 d) hx (by simp) ?_ ?_ (by unfold maxLen; omega) (by omega) (Nat.le_refl _) ?_
    · intro j u hj
      rw [add_flat]
      have hj' : j < l.length := by
        rcases Nat.lt_or_ge j l.length with h' | h'
        · exact h'
        · simp [h'] at hj
      rw [hcell j hj']
      simpa [hj'] using hj
    · intro u hu
      obtain ⟨d, _, rfl⟩ := List.mem_map.1 hu
      rfl
    · intro v' w' hown hgrow _ _
      have hown' : w'.ownsRow w.heap.size 21 1 v' l.length (l.map fun d : Int => Value.int .i32 d) := by simpa using hown
      exact h v' w' (runes_read hown') ((Below.refl _ w).grown hgrow (Nat.le_refl _) (fun k hk => by simp [Value.ownBlock] at hk))
end Go.Proofs.Ytjlencmoobanoaa
