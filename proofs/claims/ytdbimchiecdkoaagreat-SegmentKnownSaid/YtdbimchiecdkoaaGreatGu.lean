/-
  Maps of one's own, of numbers by numbers; entries in one; rows of one's own whose elements have rows of one's own.
-/
import Derived.Test.YtdbimchiecdkoaaGreatGt
import Derived.Maps.OwnSet
namespace Go.Proofs.YtdbimchiecdkoaaGreat
open Go Go.RowKit
set_option linter.unusedVariables false
def bagE (es : List Ent) : Ent where
  foot := foots es
  holds w := (∀ e ∈ es, e.holds w) ∧ es.Pairwise (fun (a b : Ent) => ∀ k : Nat, k ∈ a.foot → k ∉ b.foot)
  loc w w' hk h := ⟨fun e he => e.loc w w' (fun k hm => hk k (mem_foots.2 ⟨e, he, hm⟩)) (h.1 e he), h.2⟩
section
variable {bs : List Nat} {w0 w w' : World} {es inn : List Ent}
theorem St.perm {es' : List Ent} (h : St bs w0 w es) (hp : es.Perm es') : St bs w0 w es' :=
  ⟨h.but, fun e he => h.holds e (hp.mem_iff.2 he), (hp.pairwise_iff (fun {a b} hab k hk hk2 => hab k hk2 hk)).1 h.apart⟩
theorem erase_perm {α : Type} : ∀ (l : List α) (k : Nat) (x : α), l[k]? = some x → l.Perm (l.eraseIdx k ++ [x])
  | [], _, _, h => by simp at h
  | a :: l, 0, x, h => by
    simp at h; subst h
    exact (List.perm_append_singleton _ _).symm
  | a :: l, k + 1, x, h => by
    simp at h
    exact (erase_perm l k x h).cons a
theorem St.inBag (h : St bs w0 w es) (k : Nat) (hk : es[k]? = some (bagE inn)) : St bs w0 w (es.eraseIdx k ++ inn) := by
  have h := h.perm (erase_perm es k _ hk)
  generalize es.eraseIdx k = L at h ⊢
  obtain ⟨p1, p2, p3⟩ := List.pairwise_append.1 h.apart
  have hb := h.holds (bagE inn) (by simp)
  refine ⟨h.but, fun e he => ?_, List.pairwise_append.2 ⟨p1, hb.1.2, fun a ha b hb' q hq hq2 => p3 a ha _ (List.mem_singleton_self _) q hq (mem_foots.2 ⟨b, hb', hq2⟩)⟩⟩
  rcases List.mem_append.1 he with he | he
  · exact h.holds e (List.mem_append_left _ he)
  · exact ⟨hb.1.1 e he, fun q hq => hb.2 q (mem_foots.2 ⟨e, he, hq⟩)⟩
end
structure OEnc (α : Type) where
  E : Enc α
  k : IntKind
  T : Nat
  row : α → List Int
  cells : Option Addr → Nat → α → List Value
  pos : 0 < E.size
  len : ∀ A c x, (cells A c x).length = E.size
  one : ∀ A c x, ∀ v ∈ cells A c x, v.oneCell' = true
  rd : ∀ {w : World} {ft : List Nat} {A : Option Addr} {c : Nat} {x : α}, (fSl (intE k) A c ((row x).map (Value.int k)) (row x)).rd w ft → E.rd w ft (cells A c x) x
section
variable {α : Type} (e : OEnc α)
def rowsB : List (Option Addr × Nat) → List α → List Ent
  | [], _ => []
  | _ :: _, [] => []
  | a :: ads, x :: xs => rowE e.k e.T a.1 a.2 (e.row x) :: rowsB ads xs
def cellsB : List (Option Addr × Nat) → List α → List Value
  | [], _ => []
  | _ :: _, [] => []
  | a :: ads, x :: xs => e.cells a.1 a.2 x ++ cellsB ads xs
def insO (T : Nat) (A : Option Addr) (n c : Nat) (vs : List Value) (rs : List Ent) : List Ent := rowG T e.E.size (.slice A n c) n vs :: rs
def rowO (T : Nat) (A : Option Addr) (n c : Nat) (ads : List (Option Addr × Nat)) (xs : List α) : Ent where
  foot := (bagE (insO e T A n c (cellsB e ads xs) (rowsB e ads xs))).foot
  holds w := (n = xs.length ∧ ads.length = xs.length) ∧ (bagE (insO e T A n c (cellsB e ads xs) (rowsB e ads xs))).holds w
  loc w w' hk h := ⟨h.1, (bagE _).loc w w' hk h.2⟩
def rowX (T : Nat) (A : Option Addr) (n c : Nat) (ads : List (Option Addr × Nat)) (xs : List α) (i : Nat) (A' : Option Addr) (c' : Nat) (r : List Int) : Ent where
  foot := (bagE (insO e T A n c (cellsB e ads xs) ((rowsB e ads xs).set i (rowE e.k e.T A' c' r)))).foot
  holds w := (n = xs.length ∧ ads.length = xs.length) ∧ (bagE (insO e T A n c (cellsB e ads xs) ((rowsB e ads xs).set i (rowE e.k e.T A' c' r)))).holds w
  loc w w' hk h := ⟨h.1, (bagE _).loc w w' hk h.2⟩
end
section
variable {α : Type} {e : OEnc α} {P : Program} {bs : List Nat} {w0 w : World} {es : List Ent} {o : Oper} {ρ : Operand → Value} {T n c : Nat} {A : Option Addr} {ads : List (Option Addr × Nat)} {xs xs' : List α} {x x' : α} {a : Option Addr × Nat}
theorem St.swap {L : List Ent} {e1 : Ent} (h : St bs w0 w (L ++ [e1])) (e2 : Ent) (hf : e2.foot = e1.foot) (hh : e2.holds w) : St bs w0 w (L ++ [e2]) := by
  obtain ⟨p1, p2, p3⟩ := List.pairwise_append.1 h.apart
  refine ⟨h.but, fun q hq => ?_, List.pairwise_append.2 ⟨p1, List.pairwise_singleton _ _, fun a ha b hb => ?_⟩⟩
  · rcases List.mem_append.1 hq with hq | hq
    · exact h.holds q (List.mem_append_left _ hq)
    · obtain rfl := List.mem_singleton.1 hq
      refine ⟨hh, ?_⟩
      rw [hf]
      exact (h.holds e1 (List.mem_append_right _ (List.mem_singleton_self _))).2
  · obtain rfl := List.mem_singleton.1 hb
    rw [hf]
    exact p3 a ha e1 (List.mem_singleton_self _)
theorem erase_last {β : Type} (L : List β) (x : β) : (L ++ [x]).eraseIdx L.length = L := by
  rw [List.eraseIdx_append_of_length_le (Nat.le_refl _), Nat.sub_self]; simp
theorem St.inO (h : St bs w0 w es) (k : Nat) (hk : es[k]? = some (rowO e T A n c ads xs)) : (n = xs.length ∧ ads.length = xs.length) ∧ St bs w0 w (es.eraseIdx k ++ insO e T A n c (cellsB e ads xs) (rowsB e ads xs)) := by
  have hh := h.get k hk
  refine ⟨hh.1, ?_⟩
  have h3 := (h.perm (erase_perm es k _ hk)).swap (bagE (insO e T A n c (cellsB e ads xs) (rowsB e ads xs))) rfl hh.2
  have h4 := h3.inBag (inn := insO e T A n c (cellsB e ads xs) (rowsB e ads xs)) (es.eraseIdx k).length (by rw [List.getElem?_append_right (Nat.le_refl _), Nat.sub_self]; rfl)
  rwa [erase_last] at h4
theorem St.inX {i : Nat} {A' : Option Addr} {c' : Nat} {r : List Int} (h : St bs w0 w es) (k : Nat) (hk : es[k]? = some (rowX e T A n c ads xs i A' c' r)) : (n = xs.length ∧ ads.length = xs.length) ∧ St bs w0 w (es.eraseIdx k ++ insO e T A n c (cellsB e ads xs) ((rowsB e ads xs).set i (rowE e.k e.T A' c' r))) := by
  have hh := h.get k hk
  refine ⟨hh.1, ?_⟩
  have h3 := (h.perm (erase_perm es k _ hk)).swap (bagE (insO e T A n c (cellsB e ads xs) ((rowsB e ads xs).set i (rowE e.k e.T A' c' r)))) rfl hh.2
  have h4 := h3.inBag (inn := insO e T A n c (cellsB e ads xs) ((rowsB e ads xs).set i (rowE e.k e.T A' c' r))) (es.eraseIdx k).length (by rw [List.getElem?_append_right (Nat.le_refl _), Nat.sub_self]; rfl)
  rwa [erase_last] at h4
end
section
variable {P : Program} {ro : Option Nat} {n : Nat} {ops : Array Oper} {Q : Exit → Act → World → Prop} {a : Act} {w : World} {S : World → Prop} {fuel : Nat} {listed : Array Bool} {op : Op} {ty : TypeId} {ps : String} {af : Array Edge} {gu : Option (Nat × Bool)}
theorem gu1 (i d : Nat) (v : Value) (hi : ops[i]? = some { dst := some d, op := op, type := ty, pos := ps, after := af, guard := gu }) (hS : S w)
    (hy : ∀ w, S w → (execOp a.eval { dst := some d, op := op, type := ty, pos := ps, after := af, guard := gu }).run P w = .ok (.value v) w)
    (h : WD ro n P ops Q S fuel (listed.setIfInBounds i true) (a.put (some d) v) w)
    (hQ : ∀ c a w, Q (.panic c) (a.put (some d) v) w → Q (.panic c) a w := by exact fun _ _ _ h => h)
    (hc : (ops.all plainOp && (Region.noSelect ops && (Region.free .any ops listed i && ((Region.ready .any ops listed).contains i && Region.wanted { dst := some d, op := op, type := ty, pos := ps, after := af, guard := gu } (yielded ops a.tmps))))) = true := by as_aux_lemma => kernel_rfl) :
    WD ro n P ops Q S (fuel + 1) listed a w := gd1 i _ v hi hS hy h hQ hc
theorem gv1 (i d : Nat) (v : Value) (hi : ops[i]? = some { dst := some d, op := op, type := ty, pos := ps, after := af, guard := gu }) (hS : S w)
    (h : WD ro n P ops Q S fuel (listed.setIfInBounds i true) (a.put (some d) v) w)
    (hy : ∀ w, S w → (execOp a.eval { dst := some d, op := op, type := ty, pos := ps, after := af, guard := gu }).run P w = .ok (.value v) w := by exact fun _ _ => by as_aux_lemma => kernel_rfl)
    (hQ : ∀ c a w, Q (.panic c) (a.put (some d) v) w → Q (.panic c) a w := by exact fun _ _ _ h => h)
    (hc : (ops.all plainOp && (Region.noSelect ops && (Region.free .any ops listed i && ((Region.ready .any ops listed).contains i && Region.wanted { dst := some d, op := op, type := ty, pos := ps, after := af, guard := gu } (yielded ops a.tmps))))) = true := by as_aux_lemma => kernel_rfl) :
    WD ro n P ops Q S (fuel + 1) listed a w := gd1 i _ v hi hS hy h hQ hc
theorem gz1 (i d : Nat) (hi : ops[i]? = some { dst := some d, op := op, type := ty, pos := ps, after := af, guard := gu }) (hS : S w)
    (h : WD ro n P ops Q S fuel (listed.setIfInBounds i true) (a.put (some d) undef) w)
    (hQ : ∀ c a w, Q (.panic c) (a.put (some d) undef) w → Q (.panic c) a w := by exact fun _ _ _ h => h)
    (hc : (ops.all plainOp && (Region.noSelect ops && (Region.free .any ops listed i && ((Region.ready .any ops listed).contains i && !Region.wanted { dst := some d, op := op, type := ty, pos := ps, after := af, guard := gu } (yielded ops a.tmps))))) = true := by as_aux_lemma => kernel_rfl) :
    WD ro n P ops Q S (fuel + 1) listed a w := gd0 i _ hi hS h hQ hc
end
abbrev nS : Value := .slice none 0 0
abbrev pI (i : Int) (A : Option Addr) : Value := .pointer (Option.map (fun (p : Addr) => p.add (Int.toNat i * 1)) A)
abbrev vP (g : Nat) : Value := .pointer (some ⟨g, 0, none⟩)
abbrev vQ (g j : Nat) : Value := .pointer (some ⟨g, j, none⟩)
abbrev i6 (x : Int) : Value := .int .i64 x
abbrev u6 (x : Int) : Value := .int .u16 x
abbrev iw (x : Int) : Int := IntKind.i64.wrap x
abbrev fz (n : Nat) : Array Bool := (List.replicate n false).toArray
section
variable {P : Program} {w : World} {ρ : Operand → Value} {o : Oper}
theorem rl1 {T : Nat} {x : Operand} {p : Addr} {v : Value} (hc : w.cell? p = some v) (ho : o.op = .load T x := by rfl) (hx : ρ x = .pointer (some p) := by as_aux_lemma => kernel_rfl) (hT : ∀ w, (isAgg T).run P w = .ok false w := by exact fun _ => by as_aux_lemma => kernel_rfl) :
    (execOp ρ o).run P w = .ok (.value v) w := run_load1 ho hx hT hc
theorem rlx {T : Nat} {x : Operand} {A : Option Addr} {c : Nat} {k : IntKind} {l : List Int} {i v : Int} (hv : NumZ k w (.slice A l.length c) l) (hi : ix l i = some v) (ho : o.op = .load T x := by rfl) (hx : ρ x = .pointer (A.map fun p => p.add (i.toNat * 1)) := by as_aux_lemma => kernel_rfl) (hT : ∀ w, (isAgg T).run P w = .ok false w := by exact fun _ => by as_aux_lemma => kernel_rfl) : (execOp ρ o).run P w = .ok (.value (.int k v)) w := run_loadix ho hx hT hv hi
theorem rbE {v0 v : Bool} (hb : v0 = v) (hr : (execOp ρ o).run P w = .ok (.value (.bool v0)) w := by as_aux_lemma => kernel_rfl) : (execOp ρ o).run P w = .ok (.value (.bool v)) w := run_boolE hb hr
theorem rix (E : Nat) (k : IntKind) {T : Nat} {x y : Operand} {A : Option Addr} {c : Nat} {l : List Int} {i v : Int} {k' : IntKind} {w' : World} (hx : ix l i = some v) (hn : NumZ k' w' (.slice A l.length c) l) (ho : o.op = .indexAddr T x y := by rfl)
    (h1 : ρ x = .slice A l.length c := by as_aux_lemma => kernel_rfl) (h2 : ρ y = .int k i := by as_aux_lemma => kernel_rfl) (hT : P.underlying T = some (.slice E) := by as_aux_lemma => kernel_rfl) (hs : ∀ w, (Go.sizeOf E).run P w = .ok 1 w := by exact fun _ => by as_aux_lemma => kernel_rfl) :
    (execOp ρ o).run P w = .ok (.value (.pointer (A.map fun p => p.add (i.toNat * 1)))) w := run_ixaddr ho h1 h2 hT hs (ix_in hx).1 (ix_in hx).2.1 (num_nil hn)
theorem riy (E : Nat) (k : IntKind) {T : Nat} {x y : Operand} {A : Option Addr} {n c : Nat} {l : List Int} {i v : Int} {k' : IntKind} {w' : World} (hx : ix l i = some v) (he : n = l.length) (hn : NumZ k' w' (.slice A l.length c) l) (ho : o.op = .indexAddr T x y := by rfl)
    (h1 : ρ x = .slice A n c := by as_aux_lemma => kernel_rfl) (h2 : ρ y = .int k i := by as_aux_lemma => kernel_rfl) (hT : P.underlying T = some (.slice E) := by as_aux_lemma => kernel_rfl) (hs : ∀ w, (Go.sizeOf E).run P w = .ok 1 w := by exact fun _ => by as_aux_lemma => kernel_rfl) :
    (execOp ρ o).run P w = .ok (.value (.pointer (A.map fun p => p.add (i.toNat * 1)))) w := run_ixaddr ho h1 h2 hT hs (ix_in hx).1 (lt_len he (ix_in hx).2.1) (nil_len he (num_nil hn))
theorem sj {α : Type} {a b : α} (h : some a = some b) : a = b := Option.some.inj h
end
section
variable {P : Program} {ro : Option Nat} {n : Nat} {Q : Exit → Act → World → Prop} {a : Act} {w : World}
theorem gxF {fn : Func} {R : Ending → World → Prop} (v : Value) (h : R (.returned v) w) (hd : a.defers = [] := by as_aux_lemma => kernel_rfl) (hr : (results fn a.tmps).run P w = .ok v w := by as_aux_lemma => kernel_rfl) : WQ (bodyPost P fn R) .ret a w := gx_fin v hd hr h
theorem gdst {id : Nat} {l : List Oper} (S : World → Prop) (m : Nat) (h : WD ro n P l.toArray Q S m (fz m) a w.drew) (hf : (l.toArray.size, Array.replicate l.toArray.size false) = (m, fz m) := by as_aux_lemma => kernel_rfl) (hm : P.follows .mixedOrders = true := by as_aux_lemma => kernel_rfl) :
    WC ro n P (Code.region id l.toArray true) Q a w := gd_start S m (fz m) hf hm h
end
theorem selfX {F : (Nat → Value) → Act} {a : Act} (h : a = F fun i => a.tmps.getD i undef := by as_aux_lemma => kernel_rfl) : selfA F a := h
end Go.Proofs.YtdbimchiecdkoaaGreat
