/-
  A region that draws, in two parts: what is not wanted.
-/
import Derived.Test.YtdbimchiecdkoaaGreatP0
namespace Go.Proofs.YtdbimchiecdkoaaGreat
open Go
set_option linter.unusedVariables false
section
variable {P : Program} {ro : Option Nat} {n : Nat} {ops : Array Oper} {Q : Exit → Act → World → Prop} {k : Nat} {SA SB : World → Prop} {fuel : Nat} {listed : Array Bool} {a : Act} {w : World}
theorem gk0 (i : Nat) (oi : Oper) (hi : ops[i]? = some oi) (hS : SA w)
    (h : WDK ro n P ops Q k SA SB fuel (listed.setIfInBounds i true) (a.put oi.dst undef) w)
    (hQ : ∀ c a w, Q (.panic c) (a.put oi.dst undef) w → Q (.panic c) a w := by exact fun _ _ _ h => h)
    (hc : (ops.all plainOp && (Region.noSelect ops && (Region.free .any ops listed i && ((Region.ready .any ops listed).contains i && (!Region.wanted oi (yielded ops a.tmps) && (!(i == k) && !(listed.getD k true))))))) = true := by as_aux_lemma => kernel_rfl) :
    WDK ro n P ops Q k SA SB (fuel + 1) listed a w := by
  simp only [Bool.and_eq_true, Bool.not_eq_true', beq_eq_false_iff_ne] at hc
  exact ⟨wpK_take false hc.1 hi hc.2.1 hc.2.2.1 hc.2.2.2.1 hQ hc.2.2.2.2.2.1 (fun h => by cases h) hc.2.2.2.2.2.2 (Or.inr ⟨hc.2.2.2.2.1, rfl⟩) hS h.out⟩
end
end Go.Proofs.YtdbimchiecdkoaaGreat
