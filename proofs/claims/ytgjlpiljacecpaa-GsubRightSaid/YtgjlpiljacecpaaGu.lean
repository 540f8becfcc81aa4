/-
  Maps of one's own, of numbers by numbers; entries in one; rows of one's own whose elements have rows of one's own.
-/
import Derived.Test.YtgjlpiljacecpaaGl
import Derived.Laws.IdiomStrings
import Derived.Maps.OwnSet
namespace Go.Proofs.Ytgjlpiljacecpaa
open Go Go.RowKit
set_option linter.unusedVariables false
section
variable {bs : List Nat} {w0 w w' : World} {es inn : List Ent}
theorem St.perm {es' : List Ent} (h : St bs w0 w es) (hp : es.Perm es') : St bs w0 w es' :=
  ⟨h.but, fun e he => h.holds e (hp.mem_iff.2 he), (hp.pairwise_iff (fun {a b} hab k hk hk2 => hab k hk2 hk)).1 h.apart⟩
end
section
variable {P : Program} {ro : Option Nat} {n : Nat} {ops : Array Oper} {Q : Exit → Act → World → Prop} {a : Act} {w : World} {S : World → Prop} {fuel : Nat} {listed : Array Bool} {op : Op} {ty : TypeId} {ps : String} {af : Array Edge} {gu : Option (Nat × Bool)}
theorem gu1 (i d : Nat) (v : Value) (hi : ops[i]? = some { dst := some d, op := op, type := ty, pos := ps, after := af, guard := gu }) (hS : S w)
    (hy : ∀ w, S w → (execOp a.eval { dst := some d, op := op, type := ty, pos := ps, after := af, guard := gu }).run P w = .ok (.value v) w)
    (h : WD ro n P ops Q S fuel (listed.setIfInBounds i true) (a.put (some d) v) w)
    (hQ : ∀ c a w, Q (.panic c) (a.put (some d) v) w → Q (.panic c) a w := by exact fun _ _ _ h => h)
    (hc : (ops.all plainOp && (Region.noSelect ops && (Region.free .any ops listed i && ((Region.ready .any ops listed).contains i && Region.wanted { dst := some d, op := op, type := ty, pos := ps, after := af, guard := gu } (yielded ops a.tmps))))) = true := by as_aux_lemma => kernel_rfl) :
    WD ro n P ops Q S (fuel + 1) listed a w := gd1 i _ v hi hS hy h hQ hc
theorem gv1 (i d : Nat) (v : Value) (hi : ops[i]? = some { dst := some d, op := op, type := ty, pos := ps, after := af, guard := gu }) (hS : S w)
    (h : WD ro n P ops Q S fuel (listed.setIfInBounds i true) (a.put (some d) v) w)
    (hy : ∀ w, S w → (execOp a.eval { dst := some d, op := op, type := ty, pos := ps, after := af, guard := gu }).run P w = .ok (.value v) w := by exact fun _ _ => by as_aux_lemma => kernel_rfl)
    (hQ : ∀ c a w, Q (.panic c) (a.put (some d) v) w → Q (.panic c) a w := by exact fun _ _ _ h => h)
    (hc : (ops.all plainOp && (Region.noSelect ops && (Region.free .any ops listed i && ((Region.ready .any ops listed).contains i && Region.wanted { dst := some d, op := op, type := ty, pos := ps, after := af, guard := gu } (yielded ops a.tmps))))) = true := by as_aux_lemma => kernel_rfl) :
    WD ro n P ops Q S (fuel + 1) listed a w := gd1 i _ v hi hS hy h hQ hc
theorem gz1 (i d : Nat) (hi : ops[i]? = some { dst := some d, op := op, type := ty, pos := ps, after := af, guard := gu }) (hS : S w)
    (h : WD ro n P ops Q S fuel (listed.setIfInBounds i true) (a.put (some d) undef) w)
    (hQ : ∀ c a w, Q (.panic c) (a.put (some d) undef) w → Q (.panic c) a w := by exact fun _ _ _ h => h)
    (hc : (ops.all plainOp && (Region.noSelect ops && (Region.free .any ops listed i && ((Region.ready .any ops listed).contains i && !Region.wanted { dst := some d, op := op, type := ty, pos := ps, after := af, guard := gu } (yielded ops a.tmps))))) = true := by as_aux_lemma => kernel_rfl) :
    WD ro n P ops Q S (fuel + 1) listed a w := gd0 i _ hi hS h hQ hc
end
abbrev nS : Value := .slice none 0 0
abbrev pI (i : Int) (A : Option Addr) : Value := .pointer (Option.map (fun (p : Addr) => p.add (Int.toNat i * 1)) A)
abbrev vP (g : Nat) : Value := .pointer (some ⟨g, 0, none⟩)
abbrev vQ (g j : Nat) : Value := .pointer (some ⟨g, j, none⟩)
abbrev i6 (x : Int) : Value := .int .i64 x
abbrev u6 (x : Int) : Value := .int .u16 x
abbrev iw (x : Int) : Int := IntKind.i64.wrap x
abbrev fz (n : Nat) : Array Bool := (List.replicate n false).toArray
section
variable {P : Program} {w : World} {ρ : Operand → Value} {o : Oper}
theorem rl1 {T : Nat} {x : Operand} {p : Addr} {v : Value} (hc : w.cell? p = some v) (ho : o.op = .load T x := by rfl) (hx : ρ x = .pointer (some p) := by as_aux_lemma => kernel_rfl) (hT : ∀ w, (isAgg T).run P w = .ok false w := by exact fun _ => by as_aux_lemma => kernel_rfl) :
    (execOp ρ o).run P w = .ok (.value v) w := run_load1 ho hx hT hc
theorem rlx {T : Nat} {x : Operand} {A : Option Addr} {c : Nat} {k : IntKind} {l : List Int} {i v : Int} (hv : NumZ k w (.slice A l.length c) l) (hi : ix l i = some v) (ho : o.op = .load T x := by rfl) (hx : ρ x = .pointer (A.map fun p => p.add (i.toNat * 1)) := by as_aux_lemma => kernel_rfl) (hT : ∀ w, (isAgg T).run P w = .ok false w := by exact fun _ => by as_aux_lemma => kernel_rfl) : (execOp ρ o).run P w = .ok (.value (.int k v)) w := run_loadix ho hx hT hv hi
theorem rbE {v0 v : Bool} (hb : v0 = v) (hr : (execOp ρ o).run P w = .ok (.value (.bool v0)) w := by as_aux_lemma => kernel_rfl) : (execOp ρ o).run P w = .ok (.value (.bool v)) w := run_boolE hb hr
theorem rbT {S : World → Prop} {p : Prop} [Decidable p] (h : p) (hr : ∀ w, (execOp ρ o).run P w = .ok (.value (.bool (decide p))) w := by exact fun _ => by as_aux_lemma => kernel_rfl) : ∀ w, S w → (execOp ρ o).run P w = .ok (.value (.bool true)) w := fun w _ => run_boolE (decide_eq_true h) (hr w)
theorem rbF {S : World → Prop} {p : Prop} [Decidable p] (h : ¬p) (hr : ∀ w, (execOp ρ o).run P w = .ok (.value (.bool (decide p))) w := by exact fun _ => by as_aux_lemma => kernel_rfl) : ∀ w, S w → (execOp ρ o).run P w = .ok (.value (.bool false)) w := fun w _ => run_boolE (decide_eq_false h) (hr w)
theorem rix (E : Nat) (k : IntKind) {T : Nat} {x y : Operand} {A : Option Addr} {c : Nat} {l : List Int} {i v : Int} {k' : IntKind} {w' : World} (hx : ix l i = some v) (hn : NumZ k' w' (.slice A l.length c) l) (ho : o.op = .indexAddr T x y := by rfl)
    (h1 : ρ x = .slice A l.length c := by as_aux_lemma => kernel_rfl) (h2 : ρ y = .int k i := by as_aux_lemma => kernel_rfl) (hT : P.underlying T = some (.slice E) := by as_aux_lemma => kernel_rfl) (hs : ∀ w, (Go.sizeOf E).run P w = .ok 1 w := by exact fun _ => by as_aux_lemma => kernel_rfl) :
    (execOp ρ o).run P w = .ok (.value (.pointer (A.map fun p => p.add (i.toNat * 1)))) w := run_ixaddr ho h1 h2 hT hs (ix_in hx).1 (ix_in hx).2.1 (num_nil hn)
theorem riy (E : Nat) (k : IntKind) {T : Nat} {x y : Operand} {A : Option Addr} {n c : Nat} {l : List Int} {i v : Int} {k' : IntKind} {w' : World} (hx : ix l i = some v) (he : n = l.length) (hn : NumZ k' w' (.slice A l.length c) l) (ho : o.op = .indexAddr T x y := by rfl)
    (h1 : ρ x = .slice A n c := by as_aux_lemma => kernel_rfl) (h2 : ρ y = .int k i := by as_aux_lemma => kernel_rfl) (hT : P.underlying T = some (.slice E) := by as_aux_lemma => kernel_rfl) (hs : ∀ w, (Go.sizeOf E).run P w = .ok 1 w := by exact fun _ => by as_aux_lemma => kernel_rfl) :
    (execOp ρ o).run P w = .ok (.value (.pointer (A.map fun p => p.add (i.toNat * 1)))) w := run_ixaddr ho h1 h2 hT hs (ix_in hx).1 (lt_len he (ix_in hx).2.1) (nil_len he (num_nil hn))
theorem sj {α : Type} {a b : α} (h : some a = some b) : a = b := Option.some.inj h
end
section
variable {P : Program} {ro : Option Nat} {n : Nat} {Q : Exit → Act → World → Prop} {a : Act} {w : World}
theorem gxF {fn : Func} {R : Ending → World → Prop} (v : Value) (h : R (.returned v) w) (hd : a.defers = [] := by as_aux_lemma => kernel_rfl) (hr : (results fn a.tmps).run P w = .ok v w := by as_aux_lemma => kernel_rfl) : WQ (bodyPost P fn R) .ret a w := gx_fin v hd hr h
theorem gdst {id : Nat} {l : List Oper} (S : World → Prop) (m : Nat) (h : WD ro n P l.toArray Q S m (fz m) a w.drew) (hf : (l.toArray.size, Array.replicate l.toArray.size false) = (m, fz m) := by as_aux_lemma => kernel_rfl) (hm : P.follows .mixedOrders = true := by as_aux_lemma => kernel_rfl) :
    WC ro n P (Code.region id l.toArray true) Q a w := gd_start S m (fz m) hf hm h
end
theorem selfX {F : (Nat → Value) → Act} {a : Act} (h : a = F fun i => a.tmps.getD i undef := by as_aux_lemma => kernel_rfl) : selfA F a := h
end Go.Proofs.Ytgjlpiljacecpaa
