/-
  Maps of one's own, of numbers by numbers; entries in one; rows of one's own whose elements have rows of one's own.
-/
import Derived.Test.YtkcmemldhbifdaaDoorGs
import Derived.Maps.OwnSet
namespace Go.Proofs.YtkcmemldhbifdaaDoor
open Go Go.RowKit
set_option linter.unusedVariables false
section
variable {bs : List Nat} {w0 w w' : World} {es inn : List Ent}
theorem St.perm {es' : List Ent} (h : St bs w0 w es) (hp : es.Perm es') : St bs w0 w es' :=
  ⟨h.but, fun e he => h.holds e (hp.mem_iff.2 he), (hp.pairwise_iff (fun {a b} hab k hk hk2 => hab k hk2 hk)).1 h.apart⟩
end
structure OEnc (α : Type) where
  E : Enc α
  k : IntKind
  T : Nat
  row : α → List Int
  cells : Option Addr → Nat → α → List Value
  pos : 0 < E.size
  len : ∀ A c x, (cells A c x).length = E.size
  one : ∀ A c x, ∀ v ∈ cells A c x, v.oneCell' = true
  rd : ∀ {w : World} {ft : List Nat} {A : Option Addr} {c : Nat} {x : α}, (fSl (intE k) A c ((row x).map (Value.int k)) (row x)).rd w ft → E.rd w ft (cells A c x) x
section
variable {P : Program} {ro : Option Nat} {n : Nat} {ops : Array Oper} {Q : Exit → Act → World → Prop} {a : Act} {w : World} {S : World → Prop} {fuel : Nat} {listed : Array Bool} {op : Op} {ty : TypeId} {ps : String} {af : Array Edge} {gu : Option (Nat × Bool)}
theorem gu1 (i d : Nat) (v : Value) (hi : ops[i]? = some { dst := some d, op := op, type := ty, pos := ps, after := af, guard := gu }) (hS : S w)
    (hy : ∀ w, S w → (execOp a.eval { dst := some d, op := op, type := ty, pos := ps, after := af, guard := gu }).run P w = .ok (.value v) w)
    (h : WD ro n P ops Q S fuel (listed.setIfInBounds i true) (a.put (some d) v) w)
    (hQ : ∀ c a w, Q (.panic c) (a.put (some d) v) w → Q (.panic c) a w := by exact fun _ _ _ h => h)
    (hc : (ops.all plainOp && (Region.noSelect ops && (Region.free .any ops listed i && ((Region.ready .any ops listed).contains i && Region.wanted { dst := some d, op := op, type := ty, pos := ps, after := af, guard := gu } (yielded ops a.tmps))))) = true := by as_aux_lemma => kernel_rfl) :
    WD ro n P ops Q S (fuel + 1) listed a w := gd1 i _ v hi hS hy h hQ hc
theorem gv1 (i d : Nat) (v : Value) (hi : ops[i]? = some { dst := some d, op := op, type := ty, pos := ps, after := af, guard := gu }) (hS : S w)
    (h : WD ro n P ops Q S fuel (listed.setIfInBounds i true) (a.put (some d) v) w)
    (hy : ∀ w, S w → (execOp a.eval { dst := some d, op := op, type := ty, pos := ps, after := af, guard := gu }).run P w = .ok (.value v) w := by exact fun _ _ => by as_aux_lemma => kernel_rfl)
    (hQ : ∀ c a w, Q (.panic c) (a.put (some d) v) w → Q (.panic c) a w := by exact fun _ _ _ h => h)
    (hc : (ops.all plainOp && (Region.noSelect ops && (Region.free .any ops listed i && ((Region.ready .any ops listed).contains i && Region.wanted { dst := some d, op := op, type := ty, pos := ps, after := af, guard := gu } (yielded ops a.tmps))))) = true := by as_aux_lemma => kernel_rfl) :
    WD ro n P ops Q S (fuel + 1) listed a w := gd1 i _ v hi hS hy h hQ hc
theorem gz1 (i d : Nat) (hi : ops[i]? = some { dst := some d, op := op, type := ty, pos := ps, after := af, guard := gu }) (hS : S w)
    (h : WD ro n P ops Q S fuel (listed.setIfInBounds i true) (a.put (some d) undef) w)
    (hQ : ∀ c a w, Q (.panic c) (a.put (some d) undef) w → Q (.panic c) a w := by exact fun _ _ _ h => h)
    (hc : (ops.all plainOp && (Region.noSelect ops && (Region.free .any ops listed i && ((Region.ready .any ops listed).contains i && !Region.wanted { dst := some d, op := op, type := ty, pos := ps, after := af, guard := gu } (yielded ops a.tmps))))) = true := by as_aux_lemma => kernel_rfl) :
    WD ro n P ops Q S (fuel + 1) listed a w := gd0 i _ hi hS h hQ hc
end
end Go.Proofs.YtkcmemldhbifdaaDoor
