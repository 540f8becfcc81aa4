/-
  Entries that point to one another and stay as they are; rows cut short; arrays of functions.
-/
import Derived.Test.YtbdhgjaoojimmaaDoorGq
import Derived.Test.YtbdhgjaoojimmaaDoorGc
namespace Go.Proofs.YtbdhgjaoojimmaaDoor
open Go Go.RowKit
set_option linter.unusedVariables false

/-- entries, one pointing to the next: the pointer lies first -/
def Chain {α : Type} (T : Nat) (e : Enc α) (w : World) (ft : List Nat) : Option Addr → List α → Prop
  | A, [] => A = none
  | A, x :: xs => ∃ g B c, A = some ⟨g, 0, none⟩ ∧ g ∈ ft ∧ w.heap[g]? = some (.cells (Value.pointer B :: c).toArray T (0, 0)) ∧ e.rd w ft c x ∧ Chain T e w ft B xs

section
variable {α : Type} {T : Nat} {e : Enc α} {w w' : World} {ft ft' : List Nat}

theorem Chain.loc (hk : ∀ k ∈ ft, w'.heap[k]? = w.heap[k]?) : ∀ {A : Option Addr} {xs : List α}, Chain T e w ft A xs → Chain T e w' ft A xs
  | _, [], h => h
  | _, _ :: _, ⟨g, B, c, h1, h2, h3, h4, h5⟩ => ⟨g, B, c, h1, h2, (hk g h2).trans h3, e.loc hk h4, Chain.loc hk h5⟩

theorem Chain.mono (hk : ∀ k ∈ ft, k ∈ ft') : ∀ {A : Option Addr} {xs : List α}, Chain T e w ft A xs → Chain T e w ft' A xs
  | _, [], h => h
  | _, _ :: _, ⟨g, B, c, h1, h2, h3, h4, h5⟩ => ⟨g, B, c, h1, hk g h2, h3, e.mono hk h4, Chain.mono hk h5⟩
end

/-- such a pointer -/
def fCh {α : Type} (T : Nat) (e : Enc α) (A : Option Addr) (xs : List α) : Fc where
  rd w ft := Chain T e w ft A xs
  loc hk h := h.loc hk
  mono hk h := h.mono hk

/-- a block that stays -/
def fBlk (T g : Nat) (cs : List Value) : Fc where
  rd w ft := g ∈ ft ∧ w.heap[g]? = some (.cells cs.toArray T (0, 0))
  loc hk h := ⟨h.1, (hk g h.1).trans h.2⟩
  mono hk h := ⟨hk g h.1, h.2⟩

def lnkE {α : Type} (T : Nat) (e : Enc α) : Enc (List α) where
  size := 1
  rd w ft cs xs := ∃ A, cs = [.pointer A] ∧ (fCh T e A xs).rd w ft
  len h := by obtain ⟨A, h, _⟩ := h; rw [h]; rfl
  cell h v hv := by obtain ⟨A, h, _⟩ := h; rw [h, List.mem_singleton] at hv; rw [hv]; rfl
  loc hk h := by obtain ⟨A, h, h1⟩ := h; exact ⟨A, h, (fCh T e A _).loc hk h1⟩
  mono hk h := by obtain ⟨A, h, h1⟩ := h; exact ⟨A, h, (fCh T e A _).mono hk h1⟩

def hdx {α : Type} : List α → Option (α × List α)
  | [] => none
  | x :: xs => some (x, xs)

section
variable {α : Type} {T : Nat} {e : Enc α} {bs : List Nat} {w0 w W : World} {es : List Ent} {ft : List Nat} {A B : Option Addr} {l r : List α} {x : α} {g : Nat} {c : List Value}

theorem rd_lnk (h : (fCh T e A l).rd w ft) : (lnkE T e).rd w ft [.pointer A] l := ⟨A, rfl, h⟩
theorem ch_nil : (fCh T e none []).rd w ft := rfl
theorem ch_cons (hg : g ∈ ft) (hh : w.heap[g]? = some (.cells (Value.pointer B :: c).toArray T (0, 0))) (hx : e.rd w ft c x) (h : (fCh T e B l).rd w ft) : (fCh T e (some ⟨g, 0, none⟩) (x :: l)).rd w ft := ⟨g, B, c, rfl, hg, hh, hx, h⟩

theorem ch_open (h : (fCh T e A l).rd w ft) (hh : hdx l = some (x, r)) : ∃ g B c, A = some ⟨g, 0, none⟩ ∧ (fBlk T g (Value.pointer B :: c)).rd w ft ∧ e.rd w ft c x ∧ (fCh T e B r).rd w ft := by
  cases l with
  | nil => cases hh
  | cons y ys =>
    injection hh with hh
    injection hh with h1 h2
    subst h1; subst h2
    obtain ⟨g, B, c, h1, h2, h3, h4, h5⟩ := h
    exact ⟨g, B, c, h1, ⟨h2, h3⟩, h4, h5⟩

theorem ch_yes (h : (fCh T e A l).rd w ft) (hl : l.isEmpty = true) : decide (A = none) = true := by
  cases l with
  | nil => exact decide_eq_true h
  | cons y ys => cases hl
theorem ch_no (h : (fCh T e A l).rd w ft) (hl : ¬ l.isEmpty = true) : decide (A = none) = false := by
  cases l with
  | nil => exact absurd rfl hl
  | cons y ys => obtain ⟨g, B, c, h1, _⟩ := h; rw [h1]; rfl

/-- an entry goes to what is finished -/
theorem St.freezeC (h : St bs w0 w es) (i j : Nat) (hi : es[i]? = some (boxE g (Value.pointer B :: c) T)) (hj : es[j]? = some (poolE ft W)) (hne : i ≠ j) (hx : e.rd W ft c x) (hl : (fCh T e B l).rd W ft) :
    ∃ ft' W', St bs w0 w ((es.set j (poolE ft' W')).eraseIdx i) ∧ Turn bs w0 W ft W' ft' ∧ (fCh T e (some ⟨g, 0, none⟩) (x :: l)).rd W' ft' := by
  have hs : ∀ k ∈ ft, k ∈ (boxE g (Value.pointer B :: c) T).foot ++ ft := fun _ hk => List.mem_append_right _ hk
  exact ⟨_, w, (h.freeze i j hi hj hne).1, h.turnTo j hj _ hs,
    ch_cons (List.mem_append_left _ (by simp [boxE])) (h.get i hi) (e.mono hs (e.loc (fun k hk => h.get j hj k hk) hx)) (Fc.mono _ hs (h.now j hj hl))⟩

theorem St.freezeCM (h : St bs w0 w es) (i j : Nat) (hi : es[i]? = some (boxE g (Value.pointer B :: c) T)) (hj : es[j]? = some (poolE ft W)) (hne : i ≠ j) {inn : List Nat} (hI : Inn bs w0 inn W) (hx : e.rd W (ft ++ inn) c x) (hl : (fCh T e B l).rd W (ft ++ inn)) :
    ∃ ft' W', St bs w0 w ((es.set j (poolE ft' W')).eraseIdx i) ∧ Turn bs w0 W ft W' ft' ∧ (fCh T e (some ⟨g, 0, none⟩) (x :: l)).rd W' (ft' ++ inn) := by
  have hs : ∀ k ∈ ft, k ∈ (boxE g (Value.pointer B :: c) T).foot ++ ft := fun _ hk => List.mem_append_right _ hk
  have hs2 : ∀ k ∈ ft ++ inn, k ∈ (boxE g (Value.pointer B :: c) T).foot ++ ft ++ inn := fun k hk => by
    rw [List.append_assoc]; exact List.mem_append_right _ hk
  exact ⟨_, w, (h.freeze i j hi hj hne).1, h.turnTo j hj _ hs,
    ch_cons (List.mem_append_left _ (List.mem_append_left _ (by simp [boxE]))) (h.get i hi)
      (e.mono hs2 (h.nowM j hj hI (f := ⟨fun w ft => e.rd w ft c x, fun hk h => e.loc hk h, fun hk h => e.mono hk h⟩) hx)) (Fc.mono _ hs2 (h.nowM j hj hI hl))⟩

/-- what a call finished, and what it tells of what it was handed -/
theorem St.mergeW {ft2 : List Nat} (h : St bs w0 w es) (i j : Nat) (hi : es[i]? = some (poolE ft2 w)) (hj : es[j]? = some (poolE ft W)) (hne : i ≠ j) :
    ∃ ft' W', St bs w0 w ((es.set j (poolE ft' W')).eraseIdx i) ∧ Turn bs w0 W ft W' ft' ∧ (∀ f : Fc, f.rd w ft2 → f.rd W' ft') ∧ (∀ (f : Fc) (fx : List Nat), (∀ k ∈ fx, k ∈ ft) → f.rd w (ft2 ++ fx) → f.rd W' ft') ∧
      (∀ (f : Fc) (fx inn : List Nat), (∀ k ∈ fx, k ∈ ft ++ inn) → f.rd w (ft2 ++ fx) → f.rd W' (ft' ++ inn)) :=
  ⟨_, w, (h.freeze i j hi hj hne).1, h.turnTo j hj _ (fun _ hk => List.mem_append_right _ hk), fun f hf => f.mono (fun k hk => List.mem_append_left _ hk) hf,
    fun f fx hs hf => f.mono (fun k hk => (List.mem_append.1 hk).elim (fun hk => List.mem_append_left _ hk) (fun hk => List.mem_append_right _ (hs k hk))) hf,
    fun f fx inn hs hf => f.mono (fun k hk => by
      rw [List.append_assoc]
      rcases List.mem_append.1 hk with hk | hk
      · exact List.mem_append_left _ hk
      · exact List.mem_append_right _ (hs k hk)) hf⟩
end

section
variable {P : Program} {bs : List Nat} {w0 w W : World} {es : List Ent} {o : Oper} {ρ : Operand → Value} {A : Option Addr}

theorem run_nilck {x : Operand} {q : Addr} (ho : o.op = .nilCheck x) (hx : ρ x = .pointer A) (hA : A = some q) : (execOp ρ o).run P w = .ok (.value (.pointer (some q))) w := by
  subst hA
  unfold execOp
  rw [ho]
  simp only [hx]
  rfl

theorem run_ptrnil {op : BinOp} {T T' : Nat} {x y : Operand} {b b' : Bool} (ho : o.op = .binOp op T x y T') (hx : ρ x = .pointer A) (hy : ρ y = .pointer none)
    (h0 : ∀ w, ((do eqGuard op T x y (.pointer none) (.pointer none); binOp op T (.pointer none) (.pointer none)) : Sem Value).run P w = .ok (.bool b) w)
    (h1 : ∀ p w, ((do eqGuard op T x y (.pointer (some p)) (.pointer none); binOp op T (.pointer (some p)) (.pointer none)) : Sem Value).run P w = .ok (.bool (!b)) w)
    (hd : (decide (A = none) == b) = b') : (execOp ρ o).run P w = .ok (.value (.bool b')) w := by
  subst hd
  unfold execOp
  rw [ho]
  cases A with
  | none => simp only [hx, hy, Sem.run_bind] at h0 ⊢; rw [h0]; cases b <;> rfl
  | some p => simp only [hx, hy, Sem.run_bind] at h1 ⊢; rw [h1]; cases b <;> rfl

theorem run_blk {T TB g off : Nat} {x : Operand} {cs : List Value} {v : Value} {ft : List Nat} (ho : o.op = .load T x) (hx : ρ x = .pointer (some ⟨g, off, none⟩)) (hT : ∀ w, (isAgg T).run P w = .ok false w)
    (hb : (fBlk TB g cs).rd w ft) (hj : cs[off]? = some v) : (execOp ρ o).run P w = .ok (.value v) w :=
  run_load1 ho hx hT (by simp [World.cell?, hb.2, hj])

/-- an array's place, by a number -/
theorem run_ixarr {T E m g i : Nat} {x y : Operand} {k : IntKind} {z : Int} (ho : o.op = .indexAddr T x y) (hx : ρ x = .pointer (some ⟨g, 0, none⟩)) (hy : ρ y = .int k z) (hz : z = (i : Int)) (hT : P.underlying T = some (.array m E)) (hs : ∀ w, (Go.sizeOf E).run P w = .ok 1 w) (hi : i < m) :
    (execOp ρ o).run P w = .ok (.value (.pointer (some ⟨g, i, none⟩))) w := by
  subst hz
  unfold execOp
  rw [ho]
  simp only [hx, hy, Instr.indexAt, asIntOf, Sem.run_bind, Sem.run_pure, Result.andThen_ok, run_underlying hT, Instr.sureAddr]
  rw [if_pos ⟨by omega, by omega⟩]
  simp [hs, Result.andThen, add_flat]

/-- a struct stored into a part of a box -/
theorem st_storeGP {T TB g : Nat} {x y : Operand} {cs ds cs' : List Value} (off : Nat) (ho : o.op = .store T x y) (hx : ρ x = .pointer (some ⟨g, off, none⟩)) (hy : ρ y = .agg ds.toArray) (hT : (P.info? T).map (·.size) = some ds.length) (h1 : ds.all (·.oneCell') = true)
    (h : St bs w0 w es) (i : Nat) (hi : es[i]? = some (boxE g cs TB)) (hl : off + ds.length ≤ cs.length) (hc : cs.take off ++ (ds ++ cs.drop (off + ds.length)) = cs') :
    ∃ w', (execOp ρ o).run P w = .ok .skip w' ∧ St bs w0 w' (es.set i (boxE g cs' TB)) := by
  subst hc
  have hg : w.heap[g]? = some (.cells cs.toArray TB (0, 0)) := h.get i hi
  have h3 : w.there g off ds.length := fun j hj => by
    have hcell : w.cell? ⟨g, off + j, none⟩ = cs.toArray[off + j]? := cell_of_row w g _ _ _ _ hg
    have hsz : off + j < cs.toArray.size := by simp; omega
    exact ⟨by rw [hcell, Array.getElem?_eq_getElem hsz]; rfl, frozen_none hg⟩
  have hr := run_storeAt_mid (P := P) w g off T ds.toArray (by simpa using h3) (by simpa using hT) (by simpa using h1)
  refine ⟨w.setCells g off ds, ?_, ?_⟩
  · unfold execOp
    rw [ho]
    simp only [hx, hy, Sem.run_bind, Sem.run_pure, Result.andThen_ok, hr]
  · refine h.turn i hi ⟨World.os_setCells _ _ _ _, tape_setCells _ _ _ _, World.output_setCells _ _ _ _⟩ (by rw [size_setCells]; exact Nat.le_refl _) (fun q hq hne => World.heap_setCells_other w g off ds hq (by simpa [boxE] using hne)) _ ?_ (fun q hq => .inl hq)
    show (w.setCells g off ds).heap[g]? = some _
    rw [heap_setCells ds w g off _ TB _ hg]
    have : putAll cs.toArray off ds = (cs.take off ++ (ds ++ cs.drop (off + ds.length))).toArray := by
      apply Array.ext'
      rw [putAll_list ds cs.toArray off (by simpa using hl)]
    rw [this]

/-! ### a row cut short -/
theorem own_take {T c m : Nat} {k : IntKind} {l l' : List Int} (h : (rowE k T A c l).holds w) (hl : l' = l.take m) (hm : m ≤ l.length) : (rowE k T A c l').holds w := by
  subst hl
  have h1 : w.ownsRow 0 T 1 (.slice A l.length c) l.length (l.map (Value.int k)) := h
  have hlen : (l.take m).length = m := by simp; omega
  show w.ownsRow 0 T 1 (.slice A (l.take m).length c) (l.take m).length ((l.take m).map (Value.int k))
  rw [hlen]
  refine ⟨by simp; omega, ?_⟩
  rcases h1.2 with ⟨ev, h0⟩ | ⟨g, cap, cur, ev, hb, hg, hc, hx, hs, ht⟩
  · injection ev with e1 e2 e3
    subst e1; subst e3
    obtain rfl : m = 0 := by omega
    exact .inl ⟨rfl, rfl⟩
  · injection ev with e1 e2 e3
    subst e1; subst e3
    refine .inr ⟨g, c, cur, rfl, hb, hg, by omega, hx, hs, ?_⟩
    have : (List.take (l.length * 1) cur.toList).take m = (l.map (Value.int k)).take m := by rw [ht]
    rw [List.take_take, show min m (l.length * 1) = m by omega] at this
    rw [Nat.mul_one, this, List.map_take]

theorem St.trunc {T c : Nat} {k : IntKind} {l l' : List Int} {z : Int} (h : St bs w0 w es) (i : Nat) (hi : es[i]? = some (rowE k T A c l)) (hc : cutx l 0 z = some l') : St bs w0 w (es.set i (rowE k T A c l')) := by
  obtain ⟨h0, h1, h2, e⟩ := cutx_in hc
  refine h.turn i hi ⟨rfl, rfl, rfl⟩ (Nat.le_refl _) (fun _ _ _ => rfl) _ (own_take (h.get i hi) (m := z.toNat) (by simpa using e) (by omega)) (fun _ hk => .inl (by cases A <;> exact hk))

theorem run_trunc {T TE TR c : Nat} {k : IntKind} {x : Operand} {hi : Operand} {l l' : List Int} {z : Int} (vh : Value) (kz : IntKind) (ho : o.op = .slice T x none (some hi) none) (hx : ρ x = .slice A l.length c) (hh : ρ hi = vh) (hv : vh = .int kz z) (hT : P.underlying T = some (.slice TE)) (hs : ∀ w, (Go.sizeOf TE).run P w = .ok 1 w)
    (hr : (rowE k TR A c l).holds w) (hc : cutx l 0 z = some l') : (execOp ρ o).run P w = .ok (.value (.slice A l'.length c)) w := by
  have hl := cutx_len hc
  obtain ⟨h0, h1, h2, e⟩ := cutx_in hc
  have hrm := num_room (rowE_read hr).1
  refine run_cut (l := 0) (h := z.toNat) none (some vh) ho hx rfl (by simp [hh]) hT hs (by rw [hv]; exact bnd_h (by omega) (by omega)) ?_
  have h3 : w.ownsRow 0 TR 1 (.slice A l.length c) l.length (l.map (Value.int k)) := hr
  rw [hl]
  unfold sliced
  rcases h3.2 with ⟨ev, h0⟩ | ⟨g, cap, cur, ev, hb, hg, hc, hx, hs, ht⟩
  · injection ev with e1 e2 e3
    subst e1; subst e3
    simp
  · injection ev with e1 e2 e3
    subst e1; subst e3
    simp [add_flat]
end
end Go.Proofs.YtbdhgjaoojimmaaDoor
