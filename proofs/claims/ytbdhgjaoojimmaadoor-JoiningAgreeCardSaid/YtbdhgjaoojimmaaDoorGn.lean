/-
  Rows of anything: of structs, of rows.
-/
import Derived.Test.YtbdhgjaoojimmaaDoorGm
import Derived.Deep.MidRow
import Derived.Deep.Upon
namespace Go.Proofs.YtbdhgjaoojimmaaDoor
open Go Go.RowKit
set_option linter.unusedVariables false

/-- how what a program holds stands in cells: how many, and which cells stand for it, where the blocks ft are looked at alone -/
structure Enc (α : Type) where
  size : Nat
  rd : World → List Nat → List Value → α → Prop
  len : ∀ {w ft cs x}, rd w ft cs x → cs.length = size
  cell : ∀ {w ft cs x}, rd w ft cs x → ∀ v ∈ cs, v.oneCell' = true
  loc : ∀ {w w' : World} {ft cs x}, (∀ k ∈ ft, w'.heap[k]? = w.heap[k]?) → rd w ft cs x → rd w' ft cs x
  mono : ∀ {w ft ft' cs x}, (∀ k ∈ ft, k ∈ ft') → rd w ft cs x → rd w ft' cs x

def intE (k : IntKind) : Enc Int where
  size := 1
  rd _ _ cs x := cs = [.int k x]
  len h := by rw [h]; rfl
  cell h v hv := by rw [h, List.mem_singleton] at hv; rw [hv]; rfl
  loc _ h := h
  mono _ h := h

def boolE : Enc Bool where
  size := 1
  rd _ _ cs x := cs = [.bool x]
  len h := by rw [h]; rfl
  cell h v hv := by rw [h, List.mem_singleton] at hv; rw [hv]; rfl
  loc _ h := h
  mono _ h := h

def strE : Enc ByteArray where
  size := 1
  rd _ _ cs x := cs = [.string x]
  len h := by rw [h]; rfl
  cell h v hv := by rw [h, List.mem_singleton] at hv; rw [hv]; rfl
  loc _ h := h
  mono _ h := h

def pairE {α β : Type} (a : Enc α) (b : Enc β) : Enc (α × β) where
  size := a.size + b.size
  rd w ft cs x := ∃ c d, cs = c ++ d ∧ a.rd w ft c x.1 ∧ b.rd w ft d x.2
  len h := by obtain ⟨c, d, rfl, h1, h2⟩ := h; rw [List.length_append, a.len h1, b.len h2]
  cell h v hv := by
    obtain ⟨c, d, rfl, h1, h2⟩ := h
    rcases List.mem_append.1 hv with hv | hv
    · exact a.cell h1 v hv
    · exact b.cell h2 v hv
  loc hk h := by obtain ⟨c, d, e, h1, h2⟩ := h; exact ⟨c, d, e, a.loc hk h1, b.loc hk h2⟩
  mono hk h := by obtain ⟨c, d, e, h1, h2⟩ := h; exact ⟨c, d, e, a.mono hk h1, b.mono hk h2⟩

/-- one behind the other -/
def Each {α : Type} (e : Enc α) (w : World) (ft : List Nat) : List Value → List α → Prop
  | vs, [] => vs = []
  | vs, x :: xs => ∃ c d, vs = c ++ d ∧ e.rd w ft c x ∧ Each e w ft d xs

section
variable {α : Type} {e : Enc α} {w w' : World} {ft ft' : List Nat}

theorem Each.len : ∀ {vs : List Value} {xs : List α}, Each e w ft vs xs → vs.length = xs.length * e.size
  | _, [], h => by rw [show _ = [] from h]; simp
  | _, x :: xs, ⟨c, d, h, h1, h2⟩ => by rw [h, List.length_append, e.len h1, Each.len h2, List.length_cons, Nat.succ_mul, Nat.add_comm]

theorem Each.cell : ∀ {vs : List Value} {xs : List α}, Each e w ft vs xs → ∀ v ∈ vs, v.oneCell' = true
  | _, [], h, v, hv => by rw [show _ = [] from h] at hv; cases hv
  | _, x :: xs, ⟨c, d, h, h1, h2⟩, v, hv => by
    rw [h] at hv
    rcases List.mem_append.1 hv with hv | hv
    · exact e.cell h1 v hv
    · exact Each.cell h2 v hv

theorem Each.loc (hk : ∀ k ∈ ft, w'.heap[k]? = w.heap[k]?) : ∀ {vs : List Value} {xs : List α}, Each e w ft vs xs → Each e w' ft vs xs
  | _, [], h => h
  | _, _ :: _, ⟨c, d, h, h1, h2⟩ => ⟨c, d, h, e.loc hk h1, Each.loc hk h2⟩

theorem Each.mono (hk : ∀ k ∈ ft, k ∈ ft') : ∀ {vs : List Value} {xs : List α}, Each e w ft vs xs → Each e w ft' vs xs
  | _, [], h => h
  | _, _ :: _, ⟨c, d, h, h1, h2⟩ => ⟨c, d, h, e.mono hk h1, Each.mono hk h2⟩

theorem Each.one {c : List Value} {x : α} (h : e.rd w ft c x) : Each e w ft c [x] := ⟨c, [], by simp, h, rfl⟩

theorem Each.append : ∀ {vs us : List Value} {xs ys : List α}, Each e w ft vs xs → Each e w ft us ys → Each e w ft (vs ++ us) (xs ++ ys)
  | _, _, [], _, h, h' => by rw [show _ = [] from h]; simpa using h'
  | _, us, _ :: _, _, ⟨c, d, h, h1, h2⟩, h' => ⟨c, d ++ us, by rw [h, List.append_assoc], h1, Each.append h2 h'⟩

theorem Each.drop : ∀ {vs : List Value} {xs : List α} (n : Nat), Each e w ft vs xs → Each e w ft (vs.drop (n * e.size)) (xs.drop n)
  | _, _, 0, h => by simpa using h
  | _, [], n + 1, h => by rw [show _ = [] from h]; simp [Each]
  | _, _ :: xs, n + 1, ⟨c, d, h, h1, h2⟩ => by
    have := Each.drop n h2
    rw [h, Nat.succ_mul, Nat.add_comm, ← List.drop_drop, show e.size = c.length from (e.len h1).symm, List.drop_left, e.len h1]
    simpa using this

theorem Each.take : ∀ {vs : List Value} {xs : List α} (n : Nat), Each e w ft vs xs → Each e w ft (vs.take (n * e.size)) (xs.take n)
  | _, _, 0, h => by simp [Each]
  | _, [], n + 1, h => by rw [show _ = [] from h]; simp [Each]
  | _, _ :: xs, n + 1, ⟨c, d, h, h1, h2⟩ => by
    have := Each.take n h2
    refine ⟨c, d.take (n * e.size), ?_, h1, this⟩
    rw [h, Nat.succ_mul, List.take_append, e.len h1, show n * e.size + e.size - e.size = n * e.size by omega, List.take_of_length_le (by rw [e.len h1]; omega)]

theorem Each.at {vs : List Value} {xs : List α} {i : Nat} {x : α} (h : Each e w ft vs xs) (hi : xs[i]? = some x) : e.rd w ft ((vs.drop (i * e.size)).take e.size) x := by
  have h1 := h.drop i
  obtain ⟨hl, rfl⟩ := List.getElem?_eq_some_iff.1 hi
  rw [List.drop_eq_getElem_cons hl] at h1
  obtain ⟨c, d, h2, h3, h4⟩ := h1
  rw [h2, show e.size = c.length from (e.len h3).symm, List.take_left]
  exact h3

theorem Each.set {vs c : List Value} {xs : List α} {i : Nat} {x : α} (h : Each e w ft vs xs) (hi : i < xs.length) (hc : e.rd w ft c x) :
    Each e w ft (vs.take (i * e.size) ++ (c ++ vs.drop ((i + 1) * e.size))) (xs.set i x) := by
  rw [List.set_eq_take_append_cons_drop, if_pos hi, ← List.singleton_append]
  exact (h.take i).append ((Each.one hc).append (h.drop (i + 1)))

theorem Each.rep {c : List Value} {x : α} (h : e.rd w ft c x) : ∀ n : Nat, Each e w ft ((List.replicate n c).flatten) (List.replicate n x)
  | 0 => rfl
  | n + 1 => ⟨c, (List.replicate n c).flatten, by simp [List.replicate_succ], h, Each.rep h n⟩
end

/-- what is read of blocks that stay as they are -/
structure Fc where
  rd : World → List Nat → Prop
  loc : ∀ {w w' : World} {ft}, (∀ k ∈ ft, w'.heap[k]? = w.heap[k]?) → rd w ft → rd w' ft
  mono : ∀ {w ft ft'}, (∀ k ∈ ft, k ∈ ft') → rd w ft → rd w ft'

/-- these cells stand for that -/
def fEach {α : Type} (e : Enc α) (vs : List Value) (xs : List α) : Fc where
  rd w ft := Each e w ft vs xs
  loc hk h := h.loc hk
  mono hk h := h.mono hk

/-- where a slice's cells lie -/
def Lies (w : World) (A : Option Addr) (vs : List Value) : Prop := vs ≠ [] → ∃ g off, A = some ⟨g, off, none⟩ ∧ ∀ (j : Nat) (h : j < vs.length), w.cell? ⟨g, off + j, none⟩ = some vs[j]

/-- a slice, with its cells, in blocks that stay -/
def fSl {α : Type} (e : Enc α) (A : Option Addr) (c : Nat) (vs : List Value) (xs : List α) : Fc where
  rd w ft := xs.length ≤ c ∧ c ≤ 9223372036854775807 ∧ (A = none → c = 0) ∧ Each e w ft vs xs ∧ Lies w A vs ∧ ∀ p, A = some p → vs ≠ [] → p.block ∈ ft
  loc hk h := ⟨h.1, h.2.1, h.2.2.1, h.2.2.2.1.loc hk, fun hne => by
    obtain ⟨g, off, hA, hc⟩ := h.2.2.2.2.1 hne
    exact ⟨g, off, hA, fun j hj => by rw [World.cell?_of_block (hk g (h.2.2.2.2.2 _ hA hne))]; exact hc j hj⟩, h.2.2.2.2.2⟩
  mono hk h := ⟨h.1, h.2.1, h.2.2.1, h.2.2.2.1.mono hk, h.2.2.2.2.1, fun p hp hne => hk _ (h.2.2.2.2.2 p hp hne)⟩

/-- a row is a slice, whatever its cells are -/
def rowOf {α : Type} (e : Enc α) : Enc (List α) where
  size := 1
  rd w ft cs xs := ∃ A c vs, cs = [.slice A xs.length c] ∧ (fSl e A c vs xs).rd w ft
  len h := by obtain ⟨A, c, vs, h, _⟩ := h; rw [h]; rfl
  cell h v hv := by obtain ⟨A, c, vs, h, _⟩ := h; rw [h, List.mem_singleton] at hv; rw [hv]; rfl
  loc hk h := by obtain ⟨A, c, vs, h, h1⟩ := h; exact ⟨A, c, vs, h, (fSl e A c vs _).loc hk h1⟩
  mono hk h := by obtain ⟨A, c, vs, h, h1⟩ := h; exact ⟨A, c, vs, h, (fSl e A c vs _).mono hk h1⟩

theorem each_ints {k : IntKind} {w : World} {ft : List Nat} : ∀ {vs : List Value} {l : List Int}, Each (intE k) w ft vs l ↔ vs = l.map (Value.int k)
  | _, [] => by simp [Each]
  | vs, x :: l => by
    constructor
    · rintro ⟨c, d, rfl, h1, h2⟩
      rw [show c = _ from h1, each_ints.1 h2]; rfl
    · rintro rfl
      exact ⟨[.int k x], l.map (Value.int k), rfl, rfl, each_ints.2 rfl⟩

/-- a slice of numbers, in blocks that stay -/
theorem fSl_num {k : IntKind} {w : World} {ft : List Nat} {A : Option Addr} {c : Nat} {vs : List Value} {l : List Int} (h : (fSl (intE k) A c vs l).rd w ft) : NumZ k w (.slice A l.length c) l ∧ (A = none → c = 0) ∧ ∀ p, A = some p → l ≠ [] → p.block ∈ ft := by
  obtain ⟨h1, h2, h3, h4, h5, h6⟩ := h
  obtain rfl := each_ints.1 h4
  have hne : ∀ {l : List Int}, l ≠ [] → l.map (Value.int k) ≠ [] := fun h => by simpa using h
  refine ⟨⟨A, c, rfl, h1, h2, fun hn => ?_⟩, h3, fun p hp hn => h6 p hp (hne hn)⟩
  obtain ⟨g, off, rfl, hc⟩ := h5 (hne hn)
  have hl : 0 < l.length := List.length_pos_iff.2 hn
  have h0 := hc 0 (by simpa using hl)
  refine ⟨g, off, rfl, World.block_lt_of_cell? w _ h0, fun j hj => ?_⟩
  have := hc j (by simpa using hj)
  simpa using this

/-- a place in a list -/
def ixg {α : Type} (l : List α) (i : Int) : Option α := if 0 ≤ i then l[i.toNat]? else none
theorem ixg_in {α : Type} {l : List α} {i : Int} {x : α} (h : ixg l i = some x) : 0 ≤ i ∧ i < (l.length : Int) ∧ l[i.toNat]? = some x := by
  unfold ixg at h
  split at h
  · have := (List.getElem?_eq_some_iff.1 h).1; exact ⟨by assumption, by omega, h⟩
  · cases h
def apg {α : Type} (l m : List α) : Option (List α) := if l.length + m.length ≤ 1000000000 then some (l ++ m) else none
theorem apg_in {α : Type} {l m r : List α} (h : apg l m = some r) : l.length + m.length ≤ 1000000000 ∧ r = l ++ m := by
  unfold apg at h
  split at h
  · exact ⟨by assumption, (Option.some.inj h).symm⟩
  · cases h
def setg {α : Type} (l : List α) (i : Int) (x : α) : Option (List α) := if 0 ≤ i ∧ i < (l.length : Int) then some (l.set i.toNat x) else none
theorem setg_in {α : Type} {l r : List α} {i : Int} {x : α} (h : setg l i x = some r) : 0 ≤ i ∧ i < (l.length : Int) ∧ r = l.set i.toNat x := by
  unfold setg at h
  split at h
  · rename_i hi; exact ⟨hi.1, hi.2, (Option.some.inj h).symm⟩
  · cases h
theorem setg_len {α : Type} {l r : List α} {i : Int} {x : α} (h : setg l i x = some r) : r.length = l.length := by rw [(setg_in h).2.2, List.length_set]
def mkg {α : Type} (n : Int) (z : α) : Option (List α) := if 0 ≤ n ∧ n ≤ 1000000000 then some (List.replicate n.toNat z) else none
theorem mkg_in {α : Type} {n : Int} {z : α} {l : List α} (h : mkg n z = some l) : 0 ≤ n ∧ n ≤ 1000000000 ∧ l = List.replicate n.toNat z := by
  unfold mkg at h
  split at h
  · rename_i hi; exact ⟨hi.1, hi.2, (Option.some.inj h).symm⟩
  · cases h
def cutg {α : Type} (l : List α) (a b : Int) : Option (List α) := if 0 ≤ a ∧ a ≤ b ∧ b ≤ (l.length : Int) then some ((l.drop a.toNat).take (b.toNat - a.toNat)) else none

/-! ### what is finished, and stays as it is -/

/-- the blocks ft are as they were in the world W -/
def poolE (ft : List Nat) (W : World) : Ent where
  foot := ft
  holds w := ∀ k ∈ ft, w.heap[k]? = W.heap[k]?
  loc _ _ hk h := fun k hm => (hk k hm).trans (h k hm)

theorem pool_rd {w W : World} {ft : List Nat} (h : (poolE ft W).holds w) {f : Fc} (hf : f.rd W ft) : f.rd w ft := f.loc (fun k hk => h k hk) hf

section
variable {bs : List Nat} {w0 w W : World} {es : List Ent} {ft : List Nat}

theorem St.pool0 (h : St bs w0 w es) : St bs w0 w (es ++ [poolE [] w]) :=
  h.add (Below.refl _ w) _ (fun _ hk => by cases hk) (fun k hk => by cases hk)

theorem St.now (h : St bs w0 w es) (j : Nat) (hj : es[j]? = some (poolE ft W)) {f : Fc} (hf : f.rd W ft) : f.rd w ft := pool_rd (h.get j hj) hf

/-- blocks that came in, and are lent to nobody -/
def Off (bs : List Nat) (w : World) (ft : List Nat) : Prop := ∀ k ∈ ft, k < w.heap.size ∧ k ∉ bs

theorem St.inn (h : St bs w0 w es) (ho : Off bs w0 ft) {f : Fc} (hf : f.rd w0 ft) : f.rd w ft := f.loc (fun k hk => h.but.block k (ho k hk).1 (ho k hk).2) hf

/-- an entry's blocks go to what is finished -/
theorem St.freeze {e : Ent} (h : St bs w0 w es) (i j : Nat) (hi : es[i]? = some e) (hj : es[j]? = some (poolE ft W)) (hne : i ≠ j) :
    St bs w0 w ((es.set j (poolE (e.foot ++ ft) w)).eraseIdx i) ∧ ∀ f : Fc, f.rd W ft → f.rd w (e.foot ++ ft) := by
  refine ⟨?_, fun f hf => f.mono (fun k hk => List.mem_append_right _ hk) (h.now j hj hf)⟩
  have li := (List.getElem?_eq_some_iff.1 hi).1
  have lj := (List.getElem?_eq_some_iff.1 hj).1
  have ei := (List.getElem?_eq_some_iff.1 hi).2
  have ej := (List.getElem?_eq_some_iff.1 hj).2
  -- the entries, by their old places
  have key : ∀ x, x ∈ (es.set j (poolE (e.foot ++ ft) w)).eraseIdx i → True := fun _ _ => trivial
  have hL : (es.set j (poolE (e.foot ++ ft) w)).length = es.length := by simp
  have get : ∀ m (hm : m < es.length), (es.set j (poolE (e.foot ++ ft) w))[m]'(by rw [hL]; exact hm) = if j = m then poolE (e.foot ++ ft) w else es[m] := by
    intro m hm; rw [List.getElem_set]
  have old : ∀ m (hm : m < es.length), m ≠ i → (((es.set j (poolE (e.foot ++ ft) w))[m]'(by rw [hL]; exact hm)).holds w ∧ ∀ k ∈ ((es.set j (poolE (e.foot ++ ft) w))[m]'(by rw [hL]; exact hm)).foot, (w0.heap.size ≤ k ∨ k ∈ bs) ∧ k < w.heap.size) := by
    intro m hm hmi
    rw [get m hm]
    split
    · refine ⟨fun _ _ => rfl, fun k hk => ?_⟩
      rcases List.mem_append.1 hk with hk | hk
      · exact h.foot i hi k hk
      · exact h.foot j hj k hk
    · exact h.holds _ (List.getElem_mem hm)
  have apart : ∀ m n (hm : m < es.length) (hn : n < es.length), m ≠ i → n ≠ i → m ≠ n → ∀ k ∈ ((es.set j (poolE (e.foot ++ ft) w))[m]'(by rw [hL]; exact hm)).foot, k ∉ ((es.set j (poolE (e.foot ++ ft) w))[n]'(by rw [hL]; exact hn)).foot := by
    intro m n hm hn hmi hni hmn k hk hk2
    rw [get m hm] at hk
    rw [get n hn] at hk2
    split at hk
    · rename_i hjm
      rw [if_neg (by omega)] at hk2
      rcases List.mem_append.1 hk with hk | hk
      · exact h.two n i (List.getElem?_eq_getElem hn) hi hni k hk2 hk
      · exact h.two n j (List.getElem?_eq_getElem hn) hj (by omega) k hk2 hk
    · split at hk2
      · rename_i hjm hjn
        rcases List.mem_append.1 hk2 with hk2 | hk2
        · exact h.two m i (List.getElem?_eq_getElem hm) hi hmi k hk hk2
        · exact h.two m j (List.getElem?_eq_getElem hm) hj (by omega) k hk hk2
      · exact h.two m n (List.getElem?_eq_getElem hm) (List.getElem?_eq_getElem hn) hmn k hk hk2
  have nth : ∀ m (hm : m < ((es.set j (poolE (e.foot ++ ft) w)).eraseIdx i).length), ∃ q, ∃ hq : q < es.length, q ≠ i ∧ (q = if m < i then m else m + 1) ∧ ((es.set j (poolE (e.foot ++ ft) w)).eraseIdx i)[m] = (es.set j (poolE (e.foot ++ ft) w))[q]'(by rw [hL]; exact hq) := by
    intro m hm
    rw [List.length_eraseIdx, if_pos (by rw [hL]; exact li), hL] at hm
    rw [List.getElem_eraseIdx]
    split
    · exact ⟨m, by omega, by omega, rfl, rfl⟩
    · exact ⟨m + 1, by omega, by omega, rfl, rfl⟩
  refine ⟨h.but, fun x hx => ?_, List.pairwise_iff_getElem.2 fun x y hx hy hxy => ?_⟩
  · obtain ⟨m, hm, rfl⟩ := List.mem_iff_getElem.1 hx
    obtain ⟨q, hq, hqi, _, e2⟩ := nth m hm
    rw [e2]
    exact old q hq hqi
  · obtain ⟨q, hq, hqi, hq2, e2⟩ := nth x hx
    obtain ⟨r, hr, hri, hr2, e3⟩ := nth y hy
    rw [e2, e3]
    refine apart q r hq hr hqi hri ?_
    rw [hq2, hr2]
    split <;> split <;> omega
end

/-! ### rows of one's own -/
section
variable {α : Type} {e : Enc α} {w W : World} {ft : List Nat} {T c n : Nat} {A : Option Addr} {vs : List Value} {xs : List α}

theorem rowG_spec (hn : n = xs.length) (h : (rowG T e.size (.slice A n c) n vs).holds w) : xs.length ≤ c ∧ c ≤ 9223372036854775807 ∧ (A = none → c = 0) ∧ vs.length = xs.length * e.size ∧ Lies w A vs ∧ ∀ p, A = some p → p.block ∈ (rowG T e.size (.slice A n c) n vs).foot := by
  subst hn
  have h1 : w.ownsRow 0 T e.size (.slice A xs.length c) xs.length vs := h
  rcases h1.2 with ⟨ev, h0⟩ | ⟨g, cap, cur, ev, hb, hg, hc, hm, hs, ht⟩
  · injection ev with e1 e2 e3
    subst e1; subst e3
    refine ⟨by omega, by omega, fun _ => rfl, h1.1, fun hne => ?_, fun p hp => by cases hp⟩
    exfalso
    apply hne
    apply List.eq_nil_of_length_eq_zero
    rw [h1.1, h0, Nat.zero_mul]
  · injection ev with e1 e2 e3
    subst e1; subst e3
    refine ⟨hc, by unfold maxLen at hm; omega, (fun h => by cases h), h1.1, fun _ => ⟨g, 0, rfl, fun j hj => ?_⟩, fun p hp => ?_⟩
    · have := h1.cells (g := g) rfl j vs[j] (List.getElem?_eq_getElem hj)
      rwa [add_flat] at this
    · injection hp with hp; subst hp; simp [rowG, Value.ownBlock]

/-- where the cells of a row of one's own lie -/
theorem rowG_lies (hn : n = xs.length) (h : (rowG T e.size (.slice A n c) n vs).holds w) : Lies w A vs := (rowG_spec hn h).2.2.2.2.1

/-- a row of one's own, read -/
theorem rowG_sl (hn : n = xs.length) (h : (rowG T e.size (.slice A n c) n vs).holds w) (hE : (fEach e vs xs).rd w ft) : (fSl e A c vs xs).rd w ((rowG T e.size (.slice A n c) n vs).foot ++ ft) := by
  obtain ⟨h1, h2, h3, _, h5, h6⟩ := rowG_spec hn h
  exact ⟨h1, h2, h3, Each.mono (fun k hk => List.mem_append_right _ hk) hE, h5, fun p hp _ => List.mem_append_left _ (h6 p hp)⟩

theorem rowE_sl {k : IntKind} {l : List Int} (ft : List Nat) (h : (rowE k T A c l).holds w) : (fSl (intE k) A c (l.map (Value.int k)) l).rd w ((rowE k T A c l).foot ++ ft) :=
  rowG_sl (e := intE k) (T := T) (xs := l) rfl h (each_ints.2 rfl)

theorem rowE_slN {k : IntKind} {l : List Int} (ft : List Nat) (hn : n = l.length) (h : (rowE k T A c l).holds w) : (fSl (intE k) A c (l.map (Value.int k)) l).rd w ((rowE k T A c l).foot ++ ft) := rowE_sl ft h

/-- an element's cells -/
theorem elem_at {i : Int} {x : α} (hL : Lies w A vs) (hE : Each e W ft vs xs) (hi : ixg xs i = some x) (hsz : 0 < e.size) :
    ∃ g off ec, A.map (fun p => p.add (i.toNat * e.size)) = some ⟨g, off, none⟩ ∧ ec = (vs.drop (i.toNat * e.size)).take e.size ∧ e.rd W ft ec x ∧ ∀ w', Lies w' A vs → w'.rangeAt g off ec := by
  obtain ⟨h0, h1, h2⟩ := ixg_in hi
  have hl := hE.len
  have hlt : i.toNat < xs.length := by omega
  have hpos : (i.toNat + 1) * e.size ≤ vs.length := by rw [hl]; exact Nat.mul_le_mul_right _ hlt
  rw [Nat.succ_mul] at hpos
  have hne : vs ≠ [] := by rintro rfl; simp at hpos; omega
  obtain ⟨g, off, rfl, _⟩ := hL hne
  refine ⟨g, off + i.toNat * e.size, _, by simp [add_flat], rfl, hE.at h2, fun w' hL' j v hv => ?_⟩
  obtain ⟨g', off', e', hc⟩ := hL' hne
  injection e' with e'
  injection e' with e1 e2 _
  subst e1; subst e2
  rw [List.getElem?_take] at hv
  split at hv
  · rw [List.getElem?_drop] at hv
    obtain ⟨hj, hv⟩ := List.getElem?_eq_some_iff.1 hv
    have := hc _ hj
    rw [Nat.add_assoc, this, hv]
  · cases hv

theorem nilN (h : Lies w A vs) (hE : Each e W ft vs xs) (hsz : 0 < e.size) : A = none → xs.length = 0 := by
  rintro rfl
  rcases Nat.eq_zero_or_pos xs.length with h0 | h0
  · exact h0
  · have hl := hE.len
    have : 0 < vs.length := by rw [hl]; exact Nat.mul_pos h0 hsz
    obtain ⟨_, _, hA, _⟩ := h (by rintro rfl; simp at this)
    cases hA
end

section
variable {P : Program} {bs : List Nat} {w0 w : World} {es : List Ent} {o : Oper} {ρ : Operand → Value} {α : Type} {e : Enc α}

theorem run_ixaddrN {T E s : Nat} {x y : Operand} {A : Option Addr} {n c : Nat} {k : IntKind} {i : Int} {q : Addr} (ho : o.op = .indexAddr T x y) (hx : ρ x = .slice A n c) (hy : ρ y = .int k i)
    (hT : P.underlying T = some (.slice E)) (hs : ∀ w, (Go.sizeOf E).run P w = .ok s w) (h0 : 0 ≤ i) (h1 : i < n) (hA : A.map (fun p => p.add (i.toNat * s)) = some q) :
    (execOp ρ o).run P w = .ok (.value (.pointer (some q))) w := by
  rw [← hA]
  exact run_ixaddr ho hx hy hT hs h0 h1 (fun e => by rw [e] at hA; cases hA)

/-- a struct is read out of a row -/
theorem run_loadNG {T g off : Nat} {x : Operand} {ec : List Value} {d : TypeDesc} (ho : o.op = .load T x) (hx : ρ x = .pointer (some ⟨g, off, none⟩)) (hc : w.rangeAt g off ec)
    (hu : P.underlying T = some d) (hd : d.isRow = true) (hi : (P.info? T).map (·.size) = some ec.length) : (execOp ρ o).run P w = .ok (.value (.agg ec.toArray)) w := by
  have h := run_loadAt_mid (P := P) w g off T ec d hc hu hd hi
  unfold execOp
  rw [ho]
  simp only [hx, Sem.run_bind, Sem.run_pure, Result.andThen_ok, h]

theorem run_loadN1 {T g off : Nat} {x : Operand} {ec : List Value} {v : Value} (j : Nat) (ho : o.op = .load T x) (hx : ρ x = .pointer (some ⟨g, off + j, none⟩)) (hT : ∀ w, (isAgg T).run P w = .ok false w) (hc : w.rangeAt g off ec) (hj : ec[j]? = some v) :
    (execOp ρ o).run P w = .ok (.value v) w := run_load1 ho hx hT (hc j v hj)

/-- elements of so many cells -/
def infoN (P : Program) (T sz : Nat) : Bool := match P.info? T with
  | some i => (match i.zero with | some z => decide (z.cells.size = sz) | none => false) && decide (i.size = sz) && decide (i.bytes ≤ 100000)
  | none => false

theorem infoN_spec {T sz : Nat} (h : infoN P T sz = true) : ∃ i z b, P.info? T = some i ∧ i.zero = some z ∧ i.size = sz ∧ i.bytes = b ∧ z.cells.size = sz ∧ b ≤ 100000 := by
  unfold infoN at h
  split at h
  · rename_i i hi
    rw [Bool.and_eq_true, Bool.and_eq_true] at h
    obtain ⟨⟨h1, h2⟩, h3⟩ := h
    split at h1
    · rename_i z hz
      exact ⟨i, z, _, hi, hz, of_decide_eq_true h2, rfl, of_decide_eq_true h1, of_decide_eq_true h3⟩
    · cases h1
  · cases h

/-- append(s, x...) -/
theorem st_appendN {T TS sz : Nat} {s x : Operand} {A A2 : Option Addr} {c c2 n n2 : Nat} {vs vs2 : List Value}
    (ho : o.op = .call { callee := .builtin .append, args := #[s, x], argTypes := #[TS, TS] }) (hsv : ρ s = .slice A n c) (hxv : ρ x = .slice A2 n2 c2)
    (h : St bs w0 w es) (i : Nat) (hi : es[i]? = some (rowG T sz (.slice A n c) n vs)) (hlen2 : vs2.length = n2 * sz) (hL : Lies w A2 vs2) (h1c : ∀ v ∈ vs2, v.oneCell' = true) (hnn : A2 = none → c2 = 0) (hl : n + n2 ≤ 1000000000)
    (hT : P.underlying TS = some (.slice T)) (hz : infoN P T sz = true) (hsz : 0 < sz) :
    ∃ v w', (execOp ρ o).run P w = .ok (.value v) w' ∧ ∃ A' c', v = .slice A' (n + n2) c' ∧ St bs w0 w' (es.set i (rowG T sz (.slice A' (n + n2) c') (n + n2) (vs ++ vs2))) := by
  obtain ⟨i0, zv, by_, hi0, hz0, hs0, hb0, hz1, hz2⟩ := infoN_spec hz
  have hown : w.ownsRow 0 T sz (.slice A n c) n vs := h.get i hi
  have hex : ∀ _ : Nat, (execOp ρ o).run P w = ((Builtin.append_ #[TS, TS] o.type #[.slice A n c, .slice A2 n2 c2]).run P w).andThen (fun v w => .ok (.value v) w) := by
    intro _
    unfold execOp
    simp only [ho, resolve, invoke, builtin, Sem.run_bind, Sem.run_pure, Result.andThen_ok, List.map_toArray, List.map_cons, List.map_nil, hsv, hxv]
  have fin : ∀ (v' : Value) (w' : World), (Builtin.append_ #[TS, TS] o.type #[.slice A n c, .slice A2 n2 c2]).run P w = .ok v' w' → w'.ownsRow 0 T sz v' (n + n2) (vs ++ vs2) → w.grownBy w' (Value.slice A n c).ownBlock → (v'.ownBlock = (Value.slice A n c).ownBlock ∨ v'.ownBlock = some w.heap.size) →
      ∃ v w', (execOp ρ o).run P w = .ok (.value v) w' ∧ ∃ A' c', v = .slice A' (n + n2) c' ∧ St bs w0 w' (es.set i (rowG T sz (.slice A' (n + n2) c') (n + n2) (vs ++ vs2))) := by
    intro v' w' hr hown' hgrow hor
    obtain ⟨A', c', rfl⟩ : ∃ A' c', v' = .slice A' (n + n2) c' := by
      rcases hown'.2 with ⟨rfl, h0⟩ | ⟨g, cap, cur, rfl, _⟩
      · exact ⟨none, 0, by rw [h0]⟩
      · exact ⟨_, cap, rfl⟩
    refine ⟨_, w', by rw [hex 0, hr]; rfl, A', c', rfl, ?_⟩
    refine h.turn i hi ⟨hgrow.os, hgrow.tape, hgrow.output⟩ hgrow.size (fun k hk hne => hgrow.block k hk (fun e => hne (by simp [rowG, ← e]))) _ hown' (fun k hk => ?_)
    simp only [rowG, Option.mem_toList] at hk ⊢
    rcases hor with e | e
    · exact .inl (by rw [← e]; exact hk)
    · rw [e] at hk
      have hk2 : w.heap.size = k := by simpa using hk
      refine .inr ⟨by omega, ?_⟩
      rcases hown'.2 with ⟨e2, _⟩ | ⟨g, cap, cur, e2, _, hg, _⟩
      · rw [e2] at e; cases e
      · rw [e2] at e
        simp [Value.ownBlock] at e
        have := own_row_lt hg
        omega
  by_cases hne : vs2 = []
  · subst hne
    have hn2 : n2 = 0 := by
      rcases Nat.eq_zero_or_pos n2 with h0 | h0
      · exact h0
      · have := Nat.mul_pos h0 hsz; simp at hlen2; omega
    subst hn2
    cases A2 with
    | none =>
      have hc2 := hnn rfl
      subst hc2
      have hr := run_append_owned_none (P := P) (w := w) 0 TS o.type T i0 sz hT hi0 _ _ _ hown
      exact fin _ _ hr (by simpa using hown) ⟨rfl, rfl, rfl, Nat.le_refl _, fun _ _ _ => rfl⟩ (.inl rfl)
    | some ad =>
      obtain ⟨v', w', hr, h2, h3, h4, h5⟩ := run_append_own_at (P := P) w 0 TS o.type T i0 zv sz by_ hT hi0 hz0 hs0 hb0 hz1 hsz _ _ _ hown ad 0 c2 [] (by simp) (by simp) (by simp) (by unfold maxLen; omega) (by
        have : (n + 0) * by_ ≤ 1000000000 * 100000 := Nat.mul_le_mul (by omega) hz2
        omega) (Nat.zero_le _)
      exact fin v' w' hr (by simpa using h2) h3 h5
  · obtain ⟨g, off, rfl, hcell⟩ := hL hne
    obtain ⟨v', w', hr, h2, h3, h4, h5⟩ := run_append_own_at (P := P) w 0 TS o.type T i0 zv sz by_ hT hi0 hz0 hs0 hb0 hz1 hsz _ _ _ hown ⟨g, off, none⟩ n2 c2 vs2 hlen2 (by
      intro j u hj
      rw [add_flat]
      obtain ⟨hj', rfl⟩ := List.getElem?_eq_some_iff.1 hj
      exact hcell j hj') h1c (by unfold maxLen; omega) (by
        have : (n + n2) * by_ ≤ 1000000000 * 100000 := Nat.mul_le_mul (by omega) hz2
        omega) (Nat.zero_le _)
    exact fin v' w' hr h2 h3 h5

/-- a row of structs just made -/
theorem St.madeN (h : St bs w0 w es) (T sz n : Nat) (vs : List Value) (hl : vs.length = n * sz) (hn : n ≤ 1000000000) :
    St bs w0 (w.alloc (.cells vs.toArray T)) (es ++ [rowG T sz (.slice (some ⟨w.heap.size, 0, none⟩) n n) n vs]) := by
  refine h.add ((Below.refl _ w).alloc (Nat.le_refl _) _) _ ?_ (fun k hk => ?_)
  · exact ⟨hl, .inr ⟨w.heap.size, n, _, rfl, Nat.zero_le _, heap_alloc_new w _, Nat.le_refl _, by unfold maxLen; omega, by simp [hl], by rw [← hl]; simp⟩⟩
  · simp [rowG, Value.ownBlock] at hk
    subst hk
    exact ⟨Nat.le_refl _, heap_more _ _⟩

theorem st_madeN (T sz n : Nat) (vs : List Value) (h : St bs w0 w es) (hl : vs.length = n * sz) (hn : n ≤ 1000000000) (hr : (execOp ρ o).run P w = .ok (.value (.slice (some ⟨w.heap.size, 0, none⟩) n n)) (w.alloc (.cells vs.toArray T))) :
    ∃ v w', (execOp ρ o).run P w = .ok (.value v) w' ∧ (v = .slice (some ⟨w.heap.size, 0, none⟩) n n ∧ St bs w0 w' (es ++ [rowG T sz (.slice (some ⟨w.heap.size, 0, none⟩) n n) n vs])) :=
  ⟨_, _, hr, rfl, h.madeN T sz n vs hl hn⟩

/-- a row of no cells yet -/
theorem St.nilrowN (h : St bs w0 w es) (T sz : Nat) : St bs w0 w (es ++ [rowG T sz (.slice none 0 0) 0 []]) :=
  h.add (Below.refl _ w) _ (World.ownsRow_nil _ _ _ _) (fun k hk => by simp [rowG, Value.ownBlock] at hk)

/-- cells put into a row of cells -/
def putAll : Array Value → Nat → List Value → Array Value
  | cur, _, [] => cur
  | cur, o, v :: vs => putAll (cur.setIfInBounds o v) (o + 1) vs

theorem putAll_size : ∀ (vs : List Value) (cur : Array Value) (o : Nat), (putAll cur o vs).size = cur.size
  | [], _, _ => rfl
  | v :: vs, cur, o => by rw [putAll, putAll_size vs]; simp

theorem putAll_list : ∀ (vs : List Value) (cur : Array Value) (o : Nat), o + vs.length ≤ cur.size → (putAll cur o vs).toList = cur.toList.take o ++ (vs ++ cur.toList.drop (o + vs.length))
  | [], cur, o, _ => by simp [putAll]
  | v :: vs, cur, o, h => by
    simp only [List.length_cons] at h
    rw [putAll, putAll_list vs _ (o + 1) (by simp; omega), Array.toList_setIfInBounds]
    have hl : o < cur.toList.length := by simp; omega
    have e1 : (cur.toList.set o v).take (o + 1) = cur.toList.take o ++ [v] := by
      rw [List.set_eq_take_append_cons_drop, if_pos hl, ← List.singleton_append, ← List.append_assoc]
      exact List.take_left' (by simp; simp at hl; omega)
    have e2 : (cur.toList.set o v).drop (o + 1 + vs.length) = cur.toList.drop (o + 1 + vs.length) := List.drop_set_of_lt (by omega)
    rw [e1, e2, List.append_assoc, List.length_cons, show o + (vs.length + 1) = o + 1 + vs.length by omega]
    rfl

theorem heap_setCells : ∀ (vs : List Value) (w : World) (g o : Nat) (cur : Array Value) (t : Nat) (fr : Nat × Nat), w.heap[g]? = some (.cells cur t fr) → (w.setCells g o vs).heap[g]? = some (.cells (putAll cur o vs) t fr)
  | [], _, _, _, _, _, _, h => h
  | v :: vs, w, g, o, cur, t, fr, h => by
    rw [World.setCells, putAll]
    exact heap_setCells vs _ g (o + 1) _ t fr (by simp [World.setCell, Array.getElem?_modify, h])

theorem size_setCells : ∀ (vs : List Value) (w : World) (g o : Nat), (w.setCells g o vs).heap.size = w.heap.size
  | [], _, _, _ => rfl
  | v :: vs, w, g, o => by rw [World.setCells, size_setCells vs]; simp [World.setCell]

theorem tape_setCells : ∀ (vs : List Value) (w : World) (g o : Nat), (w.setCells g o vs).tape = w.tape
  | [], _, _, _ => rfl
  | v :: vs, w, g, o => by rw [World.setCells, tape_setCells vs]; rfl

/-- cells stored into a row of one's own -/
theorem St.putN (h : St bs w0 w es) (m : Nat) {T sz n c : Nat} {A : Option Addr} {vs : List Value} (hm : es[m]? = some (rowG T sz (.slice A n c) n vs)) (g off : Nat) (ds : List Value) (k : Nat) (hA : A = some ⟨g, 0, none⟩) (hoff : off = k) (hk : k + ds.length ≤ vs.length) :
    St bs w0 (w.setCells g off ds) (es.set m (rowG T sz (.slice A n c) n (vs.take k ++ (ds ++ vs.drop (k + ds.length))))) ∧ w.there g off ds.length := by
  subst hA; subst hoff
  have hown : w.ownsRow 0 T sz (.slice (some ⟨g, 0, none⟩) n c) n vs := h.get m hm
  rcases hown.2 with ⟨ev, _⟩ | ⟨g', cap, cur, ev, hb, hg, hc, hmx, hcs, ht⟩
  · cases ev
  · injection ev with e1 e2 e3
    injection e1 with e1
    injection e1 with e1 _ _
    subst e1; subst e3
    have hnc : n * sz ≤ cur.size := by rw [hcs]; exact Nat.mul_le_mul_right _ hc
    have hvl : vs.length = n * sz := hown.1
    refine ⟨?_, fun j hj => ?_⟩
    · refine h.turn m hm ⟨World.os_setCells _ _ _ _, tape_setCells _ _ _ _, World.output_setCells _ _ _ _⟩ (by rw [size_setCells]; exact Nat.le_refl _) (fun q hq hne => World.heap_setCells_other w g off ds hq (by simpa [rowG, Value.ownBlock] using hne)) _ ?_ (fun q hq => .inl hq)
      refine ⟨?_, .inr ⟨g, c, _, rfl, hb, heap_setCells ds w g off cur T _ hg, hc, hmx, by rw [putAll_size]; exact hcs, ?_⟩⟩
      · simp only [List.length_append, List.length_take, List.length_drop]; omega
      · rw [putAll_list ds cur off (by omega)]
        have hcl : cur.toList.length = cur.size := by simp
        rw [← ht, List.take_append, List.take_append, List.length_take, hcl, Nat.min_eq_left (by omega), List.take_take, Nat.min_eq_right (by omega), List.take_take, Nat.min_eq_left (by omega)]
        rw [List.take_of_length_le (l := ds) (by omega)]
        congr 2
        rw [List.drop_take]
        congr 1
        omega
    · have hcell : w.cell? ⟨g, off + j, none⟩ = cur[off + j]? := cell_of_row w g _ _ _ _ hg
      have hsz : off + j < cur.size := by omega
      exact ⟨by rw [hcell, Array.getElem?_eq_getElem hsz]; rfl, frozen_none hg⟩

theorem own_some {T sz n c : Nat} {A : Option Addr} {vs : List Value} (h : (rowG T sz (.slice A n c) n vs).holds w) {g off i : Nat} (hA : A.map (fun p => p.add (i * sz)) = some ⟨g, off, none⟩) : A = some ⟨g, 0, none⟩ ∧ off = i * sz := by
  have hown : w.ownsRow 0 T sz (.slice A n c) n vs := h
  rcases hown.2 with ⟨ev, _⟩ | ⟨g', cap, cur, ev, _⟩
  · injection ev with e1; subst e1; cases hA
  · injection ev with e1 _ _
    subst e1
    simp [add_flat] at hA
    exact ⟨by rw [hA.1], hA.2.symm⟩

/-- a struct stored into a row of one's own -/
theorem st_storeN {T TS sz n c g off i : Nat} {x y : Operand} {A : Option Addr} {vs ds : List Value} (ho : o.op = .store TS x y) (hx : ρ x = .pointer (some ⟨g, off, none⟩)) (hy : ρ y = .agg ds.toArray) (hi : (P.info? TS).map (·.size) = some ds.length) (h1 : ds.all (·.oneCell') = true)
    (h : St bs w0 w es) (m : Nat) (hm : es[m]? = some (rowG T sz (.slice A n c) n vs)) (hA : A.map (fun p => p.add (i * sz)) = some ⟨g, off, none⟩) (hds : ds.length = sz) (hin : i < n) :
    ∃ w', (execOp ρ o).run P w = .ok .skip w' ∧ St bs w0 w' (es.set m (rowG T sz (.slice A n c) n (vs.take (i * sz) ++ (ds ++ vs.drop ((i + 1) * sz))))) := by
  obtain ⟨e1, e2⟩ := own_some (h.get m hm) hA
  have hvl : vs.length = n * sz := (show w.ownsRow 0 T sz (.slice A n c) n vs from h.get m hm).1
  have hle : i * sz + ds.length ≤ vs.length := by rw [hvl, hds, ← Nat.succ_mul]; exact Nat.mul_le_mul_right _ hin
  obtain ⟨h2, h3⟩ := h.putN m hm g off ds (i * sz) e1 e2 hle
  refine ⟨w.setCells g off ds, ?_, ?_⟩
  · have hr := run_storeAt_mid (P := P) w g off TS ds.toArray (by simpa using h3) (by simpa using hi) (by simpa using h1)
    unfold execOp
    rw [ho]
    simp only [hx, hy, Sem.run_bind, Sem.run_pure, Result.andThen_ok, hr]
  · rw [hds, ← Nat.succ_mul] at h2
    exact h2

/-- one cell stored into a row of one's own -/
theorem st_storeN1 {T TS sz n c g off i : Nat} {x y : Operand} {A : Option Addr} {vs ec : List Value} {v : Value} (j : Nat) (ho : o.op = .store TS x y) (hx : ρ x = .pointer (some ⟨g, off + j, none⟩)) (hy : ρ y = v) (hv : v.oneCell' = true) (hs : ∀ w, (Go.sizeOf TS).run P w = .ok 1 w)
    (h : St bs w0 w es) (m : Nat) (hm : es[m]? = some (rowG T sz (.slice A n c) n vs)) (hA : A.map (fun p => p.add (i * sz)) = some ⟨g, off, none⟩) (hec : ec = (vs.drop (i * sz)).take sz) (hj : j < sz) (hin : i < n) :
    ∃ w', (execOp ρ o).run P w = .ok .skip w' ∧ St bs w0 w' (es.set m (rowG T sz (.slice A n c) n (vs.take (i * sz) ++ (ec.set j v ++ vs.drop ((i + 1) * sz))))) := by
  obtain ⟨e1, e2⟩ := own_some (h.get m hm) hA
  have hvl : vs.length = n * sz := (show w.ownsRow 0 T sz (.slice A n c) n vs from h.get m hm).1
  have hle : (i + 1) * sz ≤ vs.length := by rw [hvl]; exact Nat.mul_le_mul_right _ hin
  rw [Nat.succ_mul] at hle
  obtain ⟨h2, h3⟩ := h.putN m hm g (off + j) [v] (i * sz + j) e1 (by omega) (by simp; omega)
  refine ⟨w.setCells g (off + j) [v], ?_, ?_⟩
  · have := h3 0 (by simp)
    simp only [Nat.add_zero] at this
    exact run_store1 ho hx hy hv hs this.1 this.2
  · have key : vs.take (i * sz + j) ++ ([v] ++ vs.drop (i * sz + j + [v].length)) = vs.take (i * sz) ++ (ec.set j v ++ vs.drop ((i + 1) * sz)) := by
      have hel : ec.length = sz := by rw [hec]; simp; omega
      rw [List.set_eq_take_append_cons_drop, if_pos (by omega), hec, List.take_take, Nat.min_eq_left (by omega), List.drop_take, List.drop_drop]
      have h5 : vs.take (i * sz + j) = vs.take (i * sz) ++ (vs.drop (i * sz)).take j := by rw [List.take_add]
      rw [h5]
      simp only [List.append_assoc, List.cons_append, List.nil_append, List.length_singleton]
      congr 3
      rw [show i * sz + j + 1 = i * sz + (j + 1) by omega]
      have h6 := List.take_append_drop (sz - (j + 1)) (vs.drop (i * sz + (j + 1)))
      rw [List.drop_drop, show i * sz + (j + 1) + (sz - (j + 1)) = (i + 1) * sz by rw [Nat.succ_mul]; omega] at h6
      exact h6.symm
    rw [key] at h2
    exact h2

theorem flat_rep {β : Type} (l : List β) (hl : 0 < l.length) : ∀ (n j : Nat), ((List.replicate n l).flatten)[j]? = if j < n * l.length then l[j % l.length]? else none
  | 0, j => by simp
  | n + 1, j => by
    rw [List.replicate_succ, List.flatten_cons]
    rcases Nat.lt_or_ge j l.length with h | h
    · rw [List.getElem?_append_left h, Nat.mod_eq_of_lt h, if_pos (by rw [Nat.succ_mul]; omega)]
    · rw [List.getElem?_append_right h, flat_rep l hl n, Nat.mod_eq_sub_mod h]
      by_cases hj : j - l.length < n * l.length
      · rw [if_pos hj, if_pos (by rw [Nat.succ_mul]; omega)]
      · rw [if_neg hj, if_neg (by rw [Nat.succ_mul]; omega)]

theorem made_flat (zs : Array Value) (n : Nat) (hz : 0 < zs.size) : madeCells zs (n * zs.size) = ((List.replicate n zs.toList).flatten).toArray := by
  apply Array.ext_getElem?
  intro j
  have e2 : (((List.replicate n zs.toList).flatten).toArray)[j]? = ((List.replicate n zs.toList).flatten)[j]? := by simp
  rw [e2, flat_rep zs.toList (by simpa using hz), Array.length_toList]
  by_cases hj : j < n * zs.size
  · have hm : j % zs.size < zs.size := Nat.mod_lt _ hz
    rw [if_pos hj, Array.getElem?_eq_getElem (by rw [size_madeCells]; exact hj)]
    simp [madeCells, hm]
  · rw [if_neg hj, Array.getElem?_eq_none (by rw [size_madeCells]; omega)]

section
variable {W : World} {ft : List Nat}

/-- append, what the cells stand for beside it -/
theorem st_appendP {T TS : Nat} {s x : Operand} {A A2 : Option Addr} {c c2 n n2 : Nat} {vs vs2 : List Value} {xs ys r : List α}
    (ho : o.op = .call { callee := .builtin .append, args := #[s, x], argTypes := #[TS, TS] }) (hsv : ρ s = .slice A n c) (hxv : ρ x = .slice A2 n2 c2)
    (h : St bs w0 w es) (i : Nat) (hi : es[i]? = some (rowG T e.size (.slice A n c) n vs)) (hn : n = xs.length) (hn2 : n2 = ys.length) (hE : (fEach e vs xs).rd W ft) (hE2 : (fEach e vs2 ys).rd W ft) (hL : Lies w A2 vs2) (hnn : A2 = none → c2 = 0) (hap : apg xs ys = some r)
    (hT : P.underlying TS = some (.slice T)) (hz : infoN P T e.size = true) (hsz : 0 < e.size) :
    ∃ v w', (execOp ρ o).run P w = .ok (.value v) w' ∧ ∃ A' c' vs', v = .slice A' r.length c' ∧ (fEach e vs' r).rd W ft ∧ St bs w0 w' (es.set i (rowG T e.size (.slice A' r.length c') r.length vs')) := by
  obtain ⟨hl, rfl⟩ := apg_in hap
  subst hn; subst hn2
  obtain ⟨v, w', hr, A', c', hv, hS⟩ := st_appendN ho hsv hxv h i hi (Each.len hE2) hL (Each.cell hE2) hnn hl hT hz hsz
  rw [← List.length_append] at hv hS
  exact ⟨v, w', hr, A', c', _, hv, Each.append hE hE2, hS⟩

/-- a struct stored at a place -/
theorem st_setN {T TS n c g off : Nat} {x y : Operand} {A : Option Addr} {vs ds : List Value} {xs xs' : List α} {x' : α} {i : Int} (ho : o.op = .store TS x y) (hx : ρ x = .pointer (some ⟨g, off, none⟩)) (hy : ρ y = .agg ds.toArray) (hi : (P.info? TS).map (·.size) = some ds.length)
    (h : St bs w0 w es) (m : Nat) (hm : es[m]? = some (rowG T e.size (.slice A n c) n vs)) (hn : n = xs.length) (hE : (fEach e vs xs).rd W ft) (hA : A.map (fun p => p.add (i.toNat * e.size)) = some ⟨g, off, none⟩) (hrd : e.rd W ft ds x') (hset : setg xs i x' = some xs') :
    ∃ w', (execOp ρ o).run P w = .ok .skip w' ∧ ∃ vs', (fEach e vs' xs').rd W ft ∧ St bs w0 w' (es.set m (rowG T e.size (.slice A n c) n vs')) := by
  obtain ⟨h0, h1, rfl⟩ := setg_in hset
  have hlt : i.toNat < xs.length := by omega
  obtain ⟨w', hr, hS⟩ := st_storeN ho hx hy hi (List.all_eq_true.2 (e.cell hrd)) h m hm hA (e.len hrd) (by rw [hn]; exact hlt)
  exact ⟨w', hr, _, Each.set hE hlt hrd, hS⟩

/-- a cell stored at a place -/
theorem st_setN1 {T TS n c g off : Nat} {x y : Operand} {A : Option Addr} {vs ec : List Value} {v : Value} {xs xs' : List α} {x' : α} {i : Int} (j : Nat) (ho : o.op = .store TS x y) (hx : ρ x = .pointer (some ⟨g, off + j, none⟩)) (hy : ρ y = v) (hv : v.oneCell' = true) (hs : ∀ w, (Go.sizeOf TS).run P w = .ok 1 w)
    (h : St bs w0 w es) (m : Nat) (hm : es[m]? = some (rowG T e.size (.slice A n c) n vs)) (hn : n = xs.length) (hE : (fEach e vs xs).rd W ft) (hA : A.map (fun p => p.add (i.toNat * e.size)) = some ⟨g, off, none⟩) (hec : ec = (vs.drop (i.toNat * e.size)).take e.size) (hj : j < e.size) (hrd : e.rd W ft (ec.set j v) x') (hset : setg xs i x' = some xs') :
    ∃ w', (execOp ρ o).run P w = .ok .skip w' ∧ ∃ vs', (fEach e vs' xs').rd W ft ∧ St bs w0 w' (es.set m (rowG T e.size (.slice A n c) n vs')) := by
  obtain ⟨h0, h1, rfl⟩ := setg_in hset
  have hlt : i.toNat < xs.length := by omega
  obtain ⟨w', hr, hS⟩ := st_storeN1 j ho hx hy hv hs h m hm hA hec hj (by rw [hn]; exact hlt)
  exact ⟨w', hr, _, Each.set hE hlt hrd, hS⟩

/-- make([]T, n) -/
theorem st_makeP {k1 k2 : IntKind} {T TS by_ : Nat} {x y : Operand} {n : Int} {z : Value} {l : List α} {x0 : α} (ho : o.op = .makeSlice TS x y) (hx : ρ x = .int k1 n) (hy : ρ y = .int k2 n) (hT : P.underlying TS = some (.slice T))
    (hinfo : (P.info? T).map (fun i => (i.zero, i.size, i.bytes)) = some (some z, e.size, by_)) (hby : (decide (by_ ≤ 100000)) = true) (hsz : 0 < e.size) (hz : e.rd W ft z.cells.toList x0) (h : St bs w0 w es) (hl : mkg n x0 = some l) :
    ∃ v w', (execOp ρ o).run P w = .ok (.value v) w' ∧ ∃ A' c' vs', v = .slice A' l.length c' ∧ (fEach e vs' l).rd W ft ∧ St bs w0 w' (es ++ [rowG T e.size (.slice A' l.length c') l.length vs']) := by
  obtain ⟨h0, h1, rfl⟩ := mkg_in hl
  obtain ⟨m, rfl⟩ : ∃ m : Nat, n = (m : Int) := ⟨n.toNat, by omega⟩
  obtain ⟨i0, hi, hzz⟩ := Option.map_eq_some_iff.1 hinfo
  simp only [Prod.mk.injEq] at hzz
  obtain ⟨hz0, hs, hb⟩ := hzz
  have hb := hb
  have hb2 := of_decide_eq_true hby
  have hbm : i0.bytes * m ≤ 100000 * 1000000000 := Nat.mul_le_mul (by omega) (by omega)
  have hb' : (i0.bytes : Int) * (m : Int) ≤ 281474976710656 := by
    have h : ((i0.bytes * m : Nat) : Int) ≤ 281474976710656 := by omega
    rwa [Int.natCast_mul] at h
  have hr := run_make (P := P) w TS T i0 z hT hi hz0 k1 k2 m m (by omega) (Int.le_refl _) hb' (by omega)
  have hlen := e.len hz
  rw [Array.length_toList] at hlen
  simp only [Int.toNat_natCast, hs] at hr
  rw [← hlen, made_flat z.cells m (by omega)] at hr
  have hm : ((m : Int)).toNat = m := by simp
  rw [hm]
  have hE := Each.rep hz m
  have hS := h.madeN T e.size m ((List.replicate m z.cells.toList).flatten) (by rw [Each.len hE, List.length_replicate]) (by omega)
  have hrl : (List.replicate m x0).length = m := List.length_replicate
  refine ⟨.slice (some ⟨w.heap.size, 0, none⟩) m m, w.alloc (.cells ((List.replicate m z.cells.toList).flatten).toArray T), ?_, some ⟨w.heap.size, 0, none⟩, m, (List.replicate m z.cells.toList).flatten, by rw [hrl], hE, by rw [hrl]; exact hS⟩
  unfold execOp
  rw [ho]
  simp only [hx, hy, Sem.run_bind, hr, Result.andThen_ok, Sem.run_pure]

/-- a row written out -/
theorem st_madeP (T n : Nat) (vs : List Value) (xs : List α) (h : St bs w0 w es) (hn : n = xs.length) (hE : (fEach e vs xs).rd W ft) (hl : n ≤ 1000000000) (hr : (execOp ρ o).run P w = .ok (.value (.slice (some ⟨w.heap.size, 0, none⟩) n n)) (w.alloc (.cells vs.toArray T))) :
    ∃ v w', (execOp ρ o).run P w = .ok (.value v) w' ∧ (v = .slice (some ⟨w.heap.size, 0, none⟩) n n ∧ St bs w0 w' (es ++ [rowG T e.size (.slice (some ⟨w.heap.size, 0, none⟩) n n) n vs])) :=
  ⟨_, _, hr, rfl, h.madeN T e.size n vs (by rw [Each.len hE, hn]) hl⟩
end

/-! ### rows that are finished -/

/-- blocks that came in: they are as they were -/
def Inn (bs : List Nat) (w0 : World) (inn : List Nat) (W : World) : Prop := ∀ k ∈ inn, k < w0.heap.size ∧ k ∉ bs ∧ W.heap[k]? = w0.heap[k]?

theorem Inn.nil (bs : List Nat) (w0 W : World) : Inn bs w0 [] W := fun _ h => by cases h
theorem Inn.of {bs : List Nat} {w0 : World} {ft : List Nat} (h : Off bs w0 ft) : Inn bs w0 ft w0 := fun k hk => ⟨(h k hk).1, (h k hk).2, rfl⟩
theorem Inn.app {bs : List Nat} {w0 W : World} {a b : List Nat} (h : Inn bs w0 a W) (h' : Inn bs w0 b W) : Inn bs w0 (a ++ b) W := fun k hk => (List.mem_append.1 hk).elim (h k) (h' k)
theorem Inn.take {bs : List Nat} {w0 W : World} {inn ft : List Nat} (h : Inn bs w0 inn W) (ft' : List Nat) (hs : ∀ k ∈ ft, k ∈ inn) {f : Fc} (hf : f.rd w0 ft) : f.rd W (ft' ++ inn) :=
  f.mono (fun k hk => List.mem_append_right _ (hs k hk)) (f.loc (fun k hk => (h k (hs k hk)).2.2) hf)
theorem Fc.mix {W : World} {ft : List Nat} (inn : List Nat) {f : Fc} (hf : f.rd W ft) : f.rd W (ft ++ inn) := f.mono (fun _ hk => List.mem_append_left _ hk) hf

/-- what is finished has become more -/
structure Turn (bs : List Nat) (w0 W : World) (ft : List Nat) (W' : World) (ft' : List Nat) : Prop where
  pool : ∀ {f : Fc}, f.rd W ft → f.rd W' ft'
  inn : ∀ {inn : List Nat}, Inn bs w0 inn W → Inn bs w0 inn W'
  mix : ∀ {inn : List Nat} {f : Fc}, Inn bs w0 inn W → f.rd W (ft ++ inn) → f.rd W' (ft' ++ inn)

theorem Turn.refl (bs : List Nat) (w0 W : World) (ft : List Nat) : Turn bs w0 W ft W ft := ⟨id, id, fun _ h => h⟩
theorem Turn.trans {bs : List Nat} {w0 W W' W2 : World} {ft ft' ft2 : List Nat} (h : Turn bs w0 W ft W' ft') (h' : Turn bs w0 W' ft' W2 ft2) : Turn bs w0 W ft W2 ft2 :=
  ⟨fun hf => h'.pool (h.pool hf), fun hi => h'.inn (h.inn hi), fun hi hf => h'.mix (h.inn hi) (h.mix hi hf)⟩

section
variable {bs : List Nat} {w0 w W W2 : World} {es : List Ent} {ft ft2 : List Nat} {α : Type} {e : Enc α} {T c n : Nat} {A : Option Addr} {vs : List Value} {xs : List α}

theorem St.nowM (h : St bs w0 w es) (j : Nat) (hj : es[j]? = some (poolE ft W)) {inn : List Nat} (hI : Inn bs w0 inn W) {f : Fc} (hf : f.rd W (ft ++ inn)) : f.rd w (ft ++ inn) := by
  refine f.loc (fun k hk => ?_) hf
  rcases List.mem_append.1 hk with hk | hk
  · exact h.get j hj k hk
  · obtain ⟨h1, h2, h3⟩ := hI k hk
    rw [h3]
    exact h.but.block k h1 h2

theorem St.turnTo (h : St bs w0 w es) (j : Nat) (hj : es[j]? = some (poolE ft W)) (ft' : List Nat) (hs : ∀ k ∈ ft, k ∈ ft') : Turn bs w0 W ft w ft' where
  pool hf := Fc.mono _ hs (h.now j hj hf)
  inn hI := fun k hk => ⟨(hI k hk).1, (hI k hk).2.1, h.but.block k (hI k hk).1 (hI k hk).2.1⟩
  mix hI hf := Fc.mono _ (fun k hk => by
    rcases List.mem_append.1 hk with hk | hk
    · exact List.mem_append_left _ (hs k hk)
    · exact List.mem_append_right _ hk) (h.nowM j hj hI hf)

theorem St.freezeE {k : IntKind} {l : List Int} (h : St bs w0 w es) (i j : Nat) (hi : es[i]? = some (rowE k T A c l)) (hj : es[j]? = some (poolE ft W)) (hne : i ≠ j) :
    ∃ ft' W', St bs w0 w ((es.set j (poolE ft' W')).eraseIdx i) ∧ Turn bs w0 W ft W' ft' ∧ (fSl (intE k) A c (l.map (Value.int k)) l).rd W' ft' :=
  ⟨_, w, (h.freeze i j hi hj hne).1, h.turnTo j hj _ (fun _ hk => List.mem_append_right _ hk), rowE_sl ft (h.get i hi)⟩

theorem St.freezeN (h : St bs w0 w es) (i j : Nat) (hi : es[i]? = some (rowG T e.size (.slice A n c) n vs)) (hj : es[j]? = some (poolE ft W)) (hne : i ≠ j) (hn : n = xs.length) (hE : (fEach e vs xs).rd W ft) :
    ∃ ft' W', St bs w0 w ((es.set j (poolE ft' W')).eraseIdx i) ∧ Turn bs w0 W ft W' ft' ∧ (fSl e A c vs xs).rd W' ft' :=
  ⟨_, w, (h.freeze i j hi hj hne).1, h.turnTo j hj _ (fun _ hk => List.mem_append_right _ hk), rowG_sl hn (h.get i hi) (h.now j hj hE)⟩

theorem St.freezeM (h : St bs w0 w es) (i j : Nat) (hi : es[i]? = some (rowG T e.size (.slice A n c) n vs)) (hj : es[j]? = some (poolE ft W)) (hne : i ≠ j) (hn : n = xs.length) {inn : List Nat} (hI : Inn bs w0 inn W) (hE : (fEach e vs xs).rd W (ft ++ inn)) :
    ∃ ft' W', St bs w0 w ((es.set j (poolE ft' W')).eraseIdx i) ∧ Turn bs w0 W ft W' ft' ∧ (fSl e A c vs xs).rd W' (ft' ++ inn) :=
  ⟨_, w, (h.freeze i j hi hj hne).1, h.turnTo j hj _ (fun _ hk => List.mem_append_right _ hk), by rw [List.append_assoc]; exact rowG_sl hn (h.get i hi) (h.nowM j hj hI hE)⟩

/-- what a call finished goes to what is finished -/
theorem St.merge (h : St bs w0 w es) (i j : Nat) (hi : es[i]? = some (poolE ft2 W2)) (hj : es[j]? = some (poolE ft W)) (hne : i ≠ j) :
    ∃ ft' W', St bs w0 w ((es.set j (poolE ft' W')).eraseIdx i) ∧ Turn bs w0 W ft W' ft' ∧ (∀ f : Fc, f.rd W2 ft2 → f.rd W' ft') :=
  ⟨_, w, (h.freeze i j hi hj hne).1, h.turnTo j hj _ (fun _ hk => List.mem_append_right _ hk), fun f hf => f.mono (fun k hk => List.mem_append_left _ hk) (h.now i hi hf)⟩

/-- what is finished, as it is now -/
theorem St.renew (h : St bs w0 w es) (j : Nat) (hj : es[j]? = some (poolE ft W)) : St bs w0 w (es.set j (poolE ft w)) :=
  h.turn j hj ⟨rfl, rfl, rfl⟩ (Nat.le_refl _) (fun _ _ _ => rfl) _ (fun _ _ => rfl) (fun _ hk => .inl hk)

/-- a row whose length is told otherwise -/
theorem St.len (h : St bs w0 w es) (i : Nat) (hi : es[i]? = some (rowG T e.size (.slice A n c) n vs)) {m : Nat} (hn : n = m) : St bs w0 w (es.set i (rowG T e.size (.slice A m c) m vs)) := by
  subst hn
  have e1 : es.set i (rowG T e.size (.slice A n c) n vs) = es := by
    obtain ⟨hl, he⟩ := List.getElem?_eq_some_iff.1 hi
    rw [← he, List.set_getElem_self]
  rw [e1]
  exact h

/-- what is handed to a call: the blocks of what is finished -/
theorem St.offP (h : St bs w0 w es) (j : Nat) (hj : es[j]? = some (poolE ft W)) : Off [] w ft := fun k hk => ⟨(h.foot j hj k hk).2, by simp⟩

theorem St.offM (h : St bs w0 w es) (j : Nat) (hj : es[j]? = some (poolE ft W)) {inn : List Nat} (hI : Inn bs w0 inn W) : Off [] w (ft ++ inn) := fun k hk => by
  refine ⟨?_, by simp⟩
  rcases List.mem_append.1 hk with hk | hk
  · exact (h.foot j hj k hk).2
  · exact Nat.lt_of_lt_of_le (hI k hk).1 h.size

/-- a row of one's own, and what is finished -/
theorem St.offR {e1 : Ent} (h : St bs w0 w es) (i : Nat) (hi : es[i]? = some e1) (ho : Off [] w ft) : Off [] w (e1.foot ++ ft) := fun k hk => by
  refine ⟨?_, by simp⟩
  rcases List.mem_append.1 hk with hk | hk
  · exact (h.foot i hi k hk).2
  · exact (ho k hk).1

theorem St.offI (h : St bs w0 w es) (ho : Off bs w0 ft) : Off [] w ft := fun k hk => ⟨Nat.lt_of_lt_of_le (ho k hk).1 h.size, by simp⟩
end

/-! ### what cells stand for, put together -/
section
variable {α β : Type} {a : Enc α} {b : Enc β} {w : World} {ft : List Nat}
theorem rd_intg (k : IntKind) (x : Int) : (intE k).rd w ft [.int k x] x := rfl
theorem rd_bool (x : Bool) : boolE.rd w ft [.bool x] x := rfl
theorem rd_str (x : ByteArray) : strE.rd w ft [.string x] x := rfl
theorem rd_pair {c d : List Value} {x : α} {y : β} (h1 : a.rd w ft c x) (h2 : b.rd w ft d y) : (pairE a b).rd w ft (c ++ d) (x, y) := ⟨c, d, rfl, h1, h2⟩
theorem rd_row {A : Option Addr} {c n : Nat} {vs : List Value} {xs : List α} (hn : n = xs.length) (h : (fSl a A c vs xs).rd w ft) : (rowOf a).rd w ft [.slice A n c] xs := ⟨A, c, vs, by rw [hn], h⟩
theorem each_nil : (fEach a [] []).rd w ft := rfl
theorem each_cons {c d : List Value} {x : α} {xs : List α} (h1 : a.rd w ft c x) (h2 : (fEach a d xs).rd w ft) : (fEach a (c ++ d) (x :: xs)).rd w ft := ⟨c, d, rfl, h1, h2⟩
theorem fSl_nil : (fSl a none 0 [] []).rd w ft := ⟨Nat.le_refl _, by decide, fun _ => rfl, rfl, fun h => absurd rfl h, fun _ h => by cases h⟩
theorem sl_each {A : Option Addr} {c : Nat} {vs : List Value} {xs : List α} (h : (fSl a A c vs xs).rd w ft) : (fEach a vs xs).rd w ft := h.2.2.2.1
theorem sl_lies {A : Option Addr} {c : Nat} {vs : List Value} {xs : List α} (h : (fSl a A c vs xs).rd w ft) : Lies w A vs := h.2.2.2.2.1
theorem sl_nn {A : Option Addr} {c : Nat} {vs : List Value} {xs : List α} (h : (fSl a A c vs xs).rd w ft) : A = none → c = 0 := h.2.2.1
theorem num_sl {k : IntKind} {A : Option Addr} {c : Nat} {vs : List Value} {l : List Int} (h : (fSl (intE k) A c vs l).rd w ft) : NumZ k w (.slice A l.length c) l := (fSl_num h).1

theorem run_min2 {P : Program} {o : Oper} {ρ : Operand → Value} {T1 T2 : Nat} {x y : Operand} {k : IntKind} {a b : Int} (ho : o.op = .call { callee := .builtin .min, args := #[x, y], argTypes := #[T1, T2] }) (hx : ρ x = .int k a) (hy : ρ y = .int k b) :
    (execOp ρ o).run P w = .ok (.value (.int k (if b < a then b else a))) w := by
  unfold execOp
  simp only [ho, resolve, invoke, builtin, Sem.run_bind, Sem.run_pure, Result.andThen_ok, List.map_toArray, List.map_cons, List.map_nil, hx, hy, run_min_int2]

theorem run_max2 {P : Program} {o : Oper} {ρ : Operand → Value} {T1 T2 : Nat} {x y : Operand} {k : IntKind} {a b : Int} (ho : o.op = .call { callee := .builtin .max, args := #[x, y], argTypes := #[T1, T2] }) (hx : ρ x = .int k a) (hy : ρ y = .int k b) :
    (execOp ρ o).run P w = .ok (.value (.int k (if a < b then b else a))) w := by
  unfold execOp
  simp only [ho, resolve, invoke, builtin, Sem.run_bind, Sem.run_pure, Result.andThen_ok, List.map_toArray, List.map_cons, List.map_nil, hx, hy, run_max_int2]

theorem range_box {g T : Nat} {cs : List Value} (h : (boxE g cs T).holds w) : w.rangeAt g 0 cs := fun j v hv => by
  have hg : w.heap[g]? = some (.cells cs.toArray T (0, 0)) := h
  rw [cell_of_row w g _ _ T (0, 0) hg, Nat.zero_add]
  simpa using hv

theorem Vw.ofN {k : IntKind} {A : Option Addr} {n c : Nat} {l : List Int} (hn : n = l.length) (h : NumZ k w (.slice A n c) l) (h0 : A = none → c = 0) : Vw [] k w A c l := Vw.of (by rw [← hn]; exact h) h0

/-- a piece of what was read -/
theorem range_sub {g off : Nat} {ec : List Value} (h : w.rangeAt g off ec) (j n : Nat) : w.rangeAt g (off + j) ((ec.drop j).take n) := fun q v hv => by
  rw [List.getElem?_take] at hv
  split at hv
  · rw [List.getElem?_drop] at hv
    have := h (j + q) v hv
    rwa [← Nat.add_assoc] at this
  · cases hv
end
end
end Go.Proofs.YtbdhgjaoojimmaaDoor
