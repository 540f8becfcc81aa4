/-
  Rows of anything: of structs, of rows.
-/
import Derived.Test.YtdbimchiecdkoaaGm
import Derived.Deep.MidRow
import Derived.Deep.Upon
namespace Go.Proofs.Ytdbimchiecdkoaa
open Go Go.RowKit
set_option linter.unusedVariables false
structure Enc (α : Type) where
  size : Nat
  rd : World → List Nat → List Value → α → Prop
  len : ∀ {w ft cs x}, rd w ft cs x → cs.length = size
  cell : ∀ {w ft cs x}, rd w ft cs x → ∀ v ∈ cs, v.oneCell' = true
  loc : ∀ {w w' : World} {ft cs x}, (∀ k ∈ ft, w'.heap[k]? = w.heap[k]?) → rd w ft cs x → rd w' ft cs x
  mono : ∀ {w ft ft' cs x}, (∀ k ∈ ft, k ∈ ft') → rd w ft cs x → rd w ft' cs x
def intE (k : IntKind) : Enc Int where
  size := 1
  rd _ _ cs x := cs = [.int k x]
  len h := by rw [h]; rfl
  cell h v hv := by rw [h, List.mem_singleton] at hv; rw [hv]; rfl
  loc _ h := h
  mono _ h := h
def Each {α : Type} (e : Enc α) (w : World) (ft : List Nat) : List Value → List α → Prop
  | vs, [] => vs = []
  | vs, x :: xs => ∃ c d, vs = c ++ d ∧ e.rd w ft c x ∧ Each e w ft d xs
section
variable {α : Type} {e : Enc α} {w w' : World} {ft ft' : List Nat}
theorem Each.len : ∀ {vs : List Value} {xs : List α}, Each e w ft vs xs → vs.length = xs.length * e.size
  | _, [], h => by rw [show _ = [] from h]; simp
  | _, x :: xs, ⟨c, d, h, h1, h2⟩ => by rw [h, List.length_append, e.len h1, Each.len h2, List.length_cons, Nat.succ_mul, Nat.add_comm]
theorem Each.cell : ∀ {vs : List Value} {xs : List α}, Each e w ft vs xs → ∀ v ∈ vs, v.oneCell' = true
  | _, [], h, v, hv => by rw [show _ = [] from h] at hv; cases hv
  | _, x :: xs, ⟨c, d, h, h1, h2⟩, v, hv => by
    rw [h] at hv
    rcases List.mem_append.1 hv with hv | hv
    · exact e.cell h1 v hv
    · exact Each.cell h2 v hv
theorem Each.loc (hk : ∀ k ∈ ft, w'.heap[k]? = w.heap[k]?) : ∀ {vs : List Value} {xs : List α}, Each e w ft vs xs → Each e w' ft vs xs
  | _, [], h => h
  | _, _ :: _, ⟨c, d, h, h1, h2⟩ => ⟨c, d, h, e.loc hk h1, Each.loc hk h2⟩
theorem Each.mono (hk : ∀ k ∈ ft, k ∈ ft') : ∀ {vs : List Value} {xs : List α}, Each e w ft vs xs → Each e w ft' vs xs
  | _, [], h => h
  | _, _ :: _, ⟨c, d, h, h1, h2⟩ => ⟨c, d, h, e.mono hk h1, Each.mono hk h2⟩
theorem Each.one {c : List Value} {x : α} (h : e.rd w ft c x) : Each e w ft c [x] := ⟨c, [], by simp, h, rfl⟩
theorem Each.append : ∀ {vs us : List Value} {xs ys : List α}, Each e w ft vs xs → Each e w ft us ys → Each e w ft (vs ++ us) (xs ++ ys)
  | _, _, [], _, h, h' => by rw [show _ = [] from h]; simpa using h'
  | _, us, _ :: _, _, ⟨c, d, h, h1, h2⟩, h' => ⟨c, d ++ us, by rw [h, List.append_assoc], h1, Each.append h2 h'⟩
theorem Each.drop : ∀ {vs : List Value} {xs : List α} (n : Nat), Each e w ft vs xs → Each e w ft (vs.drop (n * e.size)) (xs.drop n)
  | _, _, 0, h => by simpa using h
  | _, [], n + 1, h => by rw [show _ = [] from h]; simp [Each]
  | _, _ :: xs, n + 1, ⟨c, d, h, h1, h2⟩ => by
    have := Each.drop n h2
    rw [h, Nat.succ_mul, Nat.add_comm, ← List.drop_drop, show e.size = c.length from (e.len h1).symm, List.drop_left, e.len h1]
    simpa using this
theorem Each.take : ∀ {vs : List Value} {xs : List α} (n : Nat), Each e w ft vs xs → Each e w ft (vs.take (n * e.size)) (xs.take n)
  | _, _, 0, h => by simp [Each]
  | _, [], n + 1, h => by rw [show _ = [] from h]; simp [Each]
  | _, _ :: xs, n + 1, ⟨c, d, h, h1, h2⟩ => by
    have := Each.take n h2
    refine ⟨c, d.take (n * e.size), ?_, h1, this⟩
    rw [h, Nat.succ_mul, List.take_append, e.len h1, show n * e.size + e.size - e.size = n * e.size by omega, List.take_of_length_le (by rw [e.len h1]; omega)]
theorem Each.at {vs : List Value} {xs : List α} {i : Nat} {x : α} (h : Each e w ft vs xs) (hi : xs[i]? = some x) : e.rd w ft ((vs.drop (i * e.size)).take e.size) x := by
  have h1 := h.drop i
  obtain ⟨hl, rfl⟩ := List.getElem?_eq_some_iff.1 hi
  rw [List.drop_eq_getElem_cons hl] at h1
  obtain ⟨c, d, h2, h3, h4⟩ := h1
  rw [h2, show e.size = c.length from (e.len h3).symm, List.take_left]
  exact h3
theorem Each.set {vs c : List Value} {xs : List α} {i : Nat} {x : α} (h : Each e w ft vs xs) (hi : i < xs.length) (hc : e.rd w ft c x) :
    Each e w ft (vs.take (i * e.size) ++ (c ++ vs.drop ((i + 1) * e.size))) (xs.set i x) := by
  rw [List.set_eq_take_append_cons_drop, if_pos hi, ← List.singleton_append]
  exact (h.take i).append ((Each.one hc).append (h.drop (i + 1)))
end
structure Fc where
  rd : World → List Nat → Prop
  loc : ∀ {w w' : World} {ft}, (∀ k ∈ ft, w'.heap[k]? = w.heap[k]?) → rd w ft → rd w' ft
  mono : ∀ {w ft ft'}, (∀ k ∈ ft, k ∈ ft') → rd w ft → rd w ft'
def Lies (w : World) (A : Option Addr) (vs : List Value) : Prop := vs ≠ [] → ∃ g off, A = some ⟨g, off, none⟩ ∧ ∀ (j : Nat) (h : j < vs.length), w.cell? ⟨g, off + j, none⟩ = some vs[j]
def fSl {α : Type} (e : Enc α) (A : Option Addr) (c : Nat) (vs : List Value) (xs : List α) : Fc where
  rd w ft := xs.length ≤ c ∧ c ≤ 9223372036854775807 ∧ (A = none → c = 0) ∧ Each e w ft vs xs ∧ Lies w A vs ∧ ∀ p, A = some p → vs ≠ [] → p.block ∈ ft
  loc hk h := ⟨h.1, h.2.1, h.2.2.1, h.2.2.2.1.loc hk, fun hne => by
    obtain ⟨g, off, hA, hc⟩ := h.2.2.2.2.1 hne
    exact ⟨g, off, hA, fun j hj => by rw [World.cell?_of_block (hk g (h.2.2.2.2.2 _ hA hne))]; exact hc j hj⟩, h.2.2.2.2.2⟩
  mono hk h := ⟨h.1, h.2.1, h.2.2.1, h.2.2.2.1.mono hk, h.2.2.2.2.1, fun p hp hne => hk _ (h.2.2.2.2.2 p hp hne)⟩
section
variable {bs : List Nat} {w0 w W : World} {es : List Ent} {ft : List Nat}
def Off (bs : List Nat) (w : World) (ft : List Nat) : Prop := ∀ k ∈ ft, k < w.heap.size ∧ k ∉ bs
theorem St.inn (h : St bs w0 w es) (ho : Off bs w0 ft) {f : Fc} (hf : f.rd w0 ft) : f.rd w ft := f.loc (fun k hk => h.but.block k (ho k hk).1 (ho k hk).2) hf
end
section
variable {P : Program} {bs : List Nat} {w0 w : World} {es : List Ent} {o : Oper} {ρ : Operand → Value} {α : Type} {e : Enc α}
def Inn (bs : List Nat) (w0 : World) (inn : List Nat) (W : World) : Prop := ∀ k ∈ inn, k < w0.heap.size ∧ k ∉ bs ∧ W.heap[k]? = w0.heap[k]?
theorem Inn.nil (bs : List Nat) (w0 W : World) : Inn bs w0 [] W := fun _ h => by cases h
theorem Inn.of {bs : List Nat} {w0 : World} {ft : List Nat} (h : Off bs w0 ft) : Inn bs w0 ft w0 := fun k hk => ⟨(h k hk).1, (h k hk).2, rfl⟩
theorem Inn.take {bs : List Nat} {w0 W : World} {inn ft : List Nat} (h : Inn bs w0 inn W) (ft' : List Nat) (hs : ∀ k ∈ ft, k ∈ inn) {f : Fc} (hf : f.rd w0 ft) : f.rd W (ft' ++ inn) :=
  f.mono (fun k hk => List.mem_append_right _ (hs k hk)) (f.loc (fun k hk => (h k (hs k hk)).2.2) hf)
theorem Fc.mix {W : World} {ft : List Nat} (inn : List Nat) {f : Fc} (hf : f.rd W ft) : f.rd W (ft ++ inn) := f.mono (fun _ hk => List.mem_append_left _ hk) hf
structure Turn (bs : List Nat) (w0 W : World) (ft : List Nat) (W' : World) (ft' : List Nat) : Prop where
  pool : ∀ {f : Fc}, f.rd W ft → f.rd W' ft'
  inn : ∀ {inn : List Nat}, Inn bs w0 inn W → Inn bs w0 inn W'
  mix : ∀ {inn : List Nat} {f : Fc}, Inn bs w0 inn W → f.rd W (ft ++ inn) → f.rd W' (ft' ++ inn)
theorem Turn.refl (bs : List Nat) (w0 W : World) (ft : List Nat) : Turn bs w0 W ft W ft := ⟨id, id, fun _ h => h⟩
theorem Turn.trans {bs : List Nat} {w0 W W' W2 : World} {ft ft' ft2 : List Nat} (h : Turn bs w0 W ft W' ft') (h' : Turn bs w0 W' ft' W2 ft2) : Turn bs w0 W ft W2 ft2 :=
  ⟨fun hf => h'.pool (h.pool hf), fun hi => h'.inn (h.inn hi), fun hi hf => h'.mix (h.inn hi) (h.mix hi hf)⟩
section
variable {bs : List Nat} {w0 w W W2 : World} {es : List Ent} {ft ft2 : List Nat} {α : Type} {e : Enc α} {T c n : Nat} {A : Option Addr} {vs : List Value} {xs : List α}
theorem St.len (h : St bs w0 w es) (i : Nat) (hi : es[i]? = some (rowG T e.size (.slice A n c) n vs)) {m : Nat} (hn : n = m) : St bs w0 w (es.set i (rowG T e.size (.slice A m c) m vs)) := by
  subst hn
  have e1 : es.set i (rowG T e.size (.slice A n c) n vs) = es := by
    obtain ⟨hl, he⟩ := List.getElem?_eq_some_iff.1 hi
    rw [← he, List.set_getElem_self]
  rw [e1]
  exact h
end
section
variable {α β : Type} {a : Enc α} {b : Enc β} {w : World} {ft : List Nat}
theorem run_min2 {P : Program} {o : Oper} {ρ : Operand → Value} {T1 T2 : Nat} {x y : Operand} {k : IntKind} {a b : Int} (ho : o.op = .call { callee := .builtin .min, args := #[x, y], argTypes := #[T1, T2] }) (hx : ρ x = .int k a) (hy : ρ y = .int k b) :
    (execOp ρ o).run P w = .ok (.value (.int k (if b < a then b else a))) w := by
  unfold execOp
  simp only [ho, resolve, invoke, builtin, Sem.run_bind, Sem.run_pure, Result.andThen_ok, List.map_toArray, List.map_cons, List.map_nil, hx, hy, run_min_int2]
end
end
end Go.Proofs.Ytdbimchiecdkoaa
