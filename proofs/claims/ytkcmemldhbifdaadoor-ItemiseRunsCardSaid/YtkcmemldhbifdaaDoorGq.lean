/-
  Two that turn the world, both ready, in a region that draws.
-/
import Derived.Test.YtkcmemldhbifdaaDoorGp
namespace Go.Proofs.YtkcmemldhbifdaaDoor
open Go Go.RowKit
set_option linter.unusedVariables false
section
variable {P : Program} {ro : Option Nat} {n : Nat} {ops : Array Oper} {Q : Exit → Act → World → Prop} {a : Act} {w : World} {S : World → Prop} {fuel : Nat} {listed : Array Bool}
theorem wpHeld_two {i j : Nat} {oi oj : Oper} (hi : ops[i]? = some oi) (hj : ops[j]? = some oj) (hr : Region.ready .any ops listed = [i, j]) (hwi : Region.wanted oi (yielded ops a.tmps) = true) (hwj : Region.wanted oj (yielded ops a.tmps) = true)
    (h1 : oi.wpIn (FW ro) n P a w (fun a' w' => S w' ∧ wpHeld ro n P ops Q S fuel (listed.setIfInBounds i true) a' w') Q) (h2 : oj.wpIn (FW ro) n P a w (fun a' w' => S w' ∧ wpHeld ro n P ops Q S fuel (listed.setIfInBounds j true) a' w') Q) : wpHeld ro n P ops Q S (fuel + 1) listed a w := by
  refine ⟨fun h0 => (by rw [hr] at h0; cases h0), fun k hk => ?_⟩
  rw [hr] at hk
  refine wpOpIn_mono (K := fun a' w' => S w' ∧ wpHeld ro n P ops Q S fuel (listed.setIfInBounds k true) a' w') (fun a' w' h3 => ⟨fun _ => h3.1, h3.2⟩) ?_
  unfold wpOpIn
  rcases List.mem_cons.1 hk with rfl | hk
  · rw [hi]
    show if Region.wanted oi (yielded ops a.tmps) = true then _ else _
    rw [if_pos hwi]
    exact h1
  · obtain rfl := List.mem_singleton.1 hk
    rw [hj]
    show if Region.wanted oj (yielded ops a.tmps) = true then _ else _
    rw [if_pos hwj]
    exact h2
structure WD1 (ro : Option Nat) (n : Nat) (P : Program) (ops : Array Oper) (Q : Exit → Act → World → Prop) (S : World → Prop) (fuel : Nat) (listed : Array Bool) (i : Nat) (oi : Oper) (a : Act) (w : World) : Prop where
  out : oi.uponIn (FW ro) n P a (fun a' w' => S w' ∧ wpHeld ro n P ops Q S fuel (listed.setIfInBounds i true) a' w') Q ((execOp a.eval oi).run P w)
theorem gd_fork2 (i j : Nat) (oi oj : Oper) (hi : ops[i]? = some oi) (hj : ops[j]? = some oj) (h1 : WD1 ro n P ops Q S fuel listed i oi a w) (h2 : WD1 ro n P ops Q S fuel listed j oj a w)
    (hc : ((plainOp oi && plainOp oj) && (decide (Region.ready .any ops listed = [i, j]) && (Region.wanted oi (yielded ops a.tmps) && Region.wanted oj (yielded ops a.tmps)))) = true := by as_aux_lemma => kernel_rfl) :
    WD ro n P ops Q S (fuel + 1) listed a w := by
  simp only [Bool.and_eq_true, decide_eq_true_eq] at hc
  obtain ⟨⟨p1, p2⟩, r0, q1, q2⟩ := hc
  refine ⟨wpHeld_two hi hj r0 q1 q2 ⟨fun _ _ => trivial, ?_⟩ ⟨fun _ _ => trivial, ?_⟩⟩
  · rw [show (FW ro).round = ro from rfl, semAt_fw p1]
    exact h1.out
  · rw [show (FW ro).round = ro from rfl, semAt_fw p2]
    exact h2.out
theorem gfR (i : Nat) (oi : Oper) {R : Value → World → Prop} (hi : ops[i]? = some oi) (hx : ∃ v w', (execOp a.eval oi).run P w = .ok (.value v) w' ∧ R v w')
    (h : ∀ v w', R v w' → S w' ∧ WD ro n P ops Q S fuel (listed.setIfInBounds i true) (a.put oi.dst v) w') : WD1 ro n P ops Q S fuel listed i oi a w := by
  obtain ⟨v, w', h1, h2⟩ := hx
  refine ⟨?_⟩
  rw [h1]
  exact ⟨(h v w' h2).1, (h v w' h2).2.out⟩
theorem gd_share {X : Type} (A : X → Act) (R : X → World → Prop) (hK : ∀ x w, R x w → WQ Q .normal (A x) w) (h : (∀ x w, R x w → WQ Q .normal (A x) w) → WD ro n P ops Q S fuel listed a w) : WD ro n P ops Q S fuel listed a w := h hK
theorem gd_meet {a' : Act} (hc : Region.ready .any ops listed = []) (h : a = a') (hq : WQ Q .normal a' w) : WD ro n P ops Q S fuel listed a w := gd_done hc (h ▸ hq)
end
end Go.Proofs.YtkcmemldhbifdaaDoor
