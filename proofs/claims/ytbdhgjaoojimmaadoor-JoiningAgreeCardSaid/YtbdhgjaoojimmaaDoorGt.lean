/-
  A row of one's own, of structs, cut short.
-/
import Derived.Test.YtbdhgjaoojimmaaDoorGl
import Derived.Laws.IdiomStrings
namespace Go.Proofs.YtbdhgjaoojimmaaDoor
open Go Go.RowKit
set_option linter.unusedVariables false

def trug {α : Type} (l : List α) (z : Int) : Option (List α) := if 0 ≤ z ∧ z ≤ l.length then some (l.take z.toNat) else none
theorem trug_in {α : Type} {l r : List α} {z : Int} (h : trug l z = some r) : 0 ≤ z ∧ z ≤ l.length ∧ r = l.take z.toNat ∧ r.length = z.toNat := by
  unfold trug at h
  split at h
  · rename_i q
    obtain rfl := Option.some.inj h
    exact ⟨q.1, q.2, rfl, by simp; omega⟩
  · cases h

section
variable {P : Program} {ρ : Operand → Value} {o : Oper} {bs : List Nat} {w0 w W : World} {es : List Ent} {ft : List Nat} {α : Type} {e : Enc α} {A : Option Addr}

theorem own_takeN {T sz n c m : Nat} {vs : List Value} (h : (rowG T sz (.slice A n c) n vs).holds w) (hm : m ≤ n) : (rowG T sz (.slice A m c) m (vs.take (m * sz))).holds w := by
  have h1 : w.ownsRow 0 T sz (.slice A n c) n vs := h
  show w.ownsRow 0 T sz (.slice A m c) m (vs.take (m * sz))
  have hms : m * sz ≤ n * sz := Nat.mul_le_mul_right _ hm
  have hl := h1.1
  refine ⟨by rw [List.length_take, hl]; omega, ?_⟩
  rcases h1.2 with ⟨ev, h0⟩ | ⟨g, cap, cur, ev, hb, hg, hc, hx, hs, ht⟩
  · injection ev with e1 e2 e3
    subst e1; subst e3
    obtain rfl : m = 0 := by omega
    exact .inl ⟨rfl, rfl⟩
  · injection ev with e1 e2 e3
    subst e1; subst e3
    refine .inr ⟨g, c, cur, rfl, hb, hg, by omega, hx, hs, ?_⟩
    have : (List.take (n * sz) cur.toList).take (m * sz) = vs.take (m * sz) := by rw [ht]
    rw [List.take_take, show min (m * sz) (n * sz) = m * sz by omega] at this
    exact this

theorem St.truncN {T n c : Nat} {vs : List Value} {xs xs' : List α} {z : Int} (h : St bs w0 w es) (i : Nat) (hi : es[i]? = some (rowG T e.size (.slice A n c) n vs)) (hn : n = xs.length) (hE : (fEach e vs xs).rd W ft) (hc : trug xs z = some xs') :
    ∃ vs', (fEach e vs' xs').rd W ft ∧ St bs w0 w (es.set i (rowG T e.size (.slice A xs'.length c) xs'.length vs')) := by
  obtain ⟨h0, h1, h2, h3⟩ := trug_in hc
  refine ⟨vs.take (xs'.length * e.size), by rw [h3, h2]; exact Each.take z.toNat hE, ?_⟩
  exact h.turn i hi ⟨rfl, rfl, rfl⟩ (Nat.le_refl _) (fun _ _ _ => rfl) _ (own_takeN (h.get i hi) (by omega)) (fun _ hk => .inl (by cases A <;> exact hk))

theorem run_truncN {T TE TR sz n c : Nat} {x : Operand} {hi : Operand} {vs : List Value} {l l' : List α} {z : Int} (vh : Value) (kz : IntKind) (ho : o.op = .slice T x none (some hi) none) (hx : ρ x = .slice A n c) (hh : ρ hi = vh) (hv : vh = .int kz z) (hT : P.underlying T = some (.slice TE)) (hs : ∀ w, (Go.sizeOf TE).run P w = .ok sz w)
    (hn : n = l.length) (hr : (rowG TR sz (.slice A n c) n vs).holds w) (hc : trug l z = some l') : (execOp ρ o).run P w = .ok (.value (.slice A l'.length c)) w := by
  obtain ⟨h0, h1, h2, h3⟩ := trug_in hc
  have h4 : w.ownsRow 0 TR sz (.slice A n c) n vs := hr
  have hcap : n ≤ c := by
    rcases h4.2 with ⟨ev, h0⟩ | ⟨g, cap, cur, ev, hb, hg, hc, hx, hs, ht⟩
    · injection ev with e1 e2 e3; omega
    · injection ev with e1 e2 e3; omega
  have hb : (Instr.sliceBounds true n c none (some vh) none).run P w = .ok (0, z.toNat, c) w := by rw [hv]; exact bnd_h (by omega) (by omega)
  have hvv : sliced A 0 z.toNat c sz = .slice A l'.length c := by
    rw [h3]
    unfold sliced
    rcases h4.2 with ⟨ev, h0⟩ | ⟨g, cap, cur, ev, hb, hg, hc, hx, hs, ht⟩
    · injection ev with e1 e2 e3
      subst e1; subst e3
      simp
    · injection ev with e1 e2 e3
      subst e1; subst e3
      simp [add_flat]
  unfold execOp
  rw [ho]
  simp only [hx, Option.map_some, hh, Instr.sliceAt, Instr.slice, Sem.run_bind, run_underlying hT, Result.andThen_ok, Option.map_none]
  rw [hb]
  simp only [Result.andThen_ok, hs, Sem.run_pure]
  rw [← hvv]
  rfl

/-! ### a string's characters -/
def runesL (s : ByteArray) : Nat → Nat → List Int
  | 0, _ => []
  | b + 1, i => if i < s.size then Int.ofNat (Utf8.decode s i).1 :: runesL s b (i + (Utf8.decode s i).2) else []
theorem runesFrom_list (s : ByteArray) : ∀ (b i : Nat) (acc : Array Value), (Conv.runesFrom s b i acc).toList = acc.toList ++ (runesL s b i).map (Value.int .i32)
  | 0, _, acc => by simp [Conv.runesFrom, runesL]
  | b + 1, i, acc => by
    unfold Conv.runesFrom runesL
    by_cases h : i < s.size
    · rw [if_pos h, if_pos h]
      have := runesFrom_list s b (i + (Utf8.decode s i).2) (acc.push (.int .i32 (Int.ofNat (Utf8.decode s i).1)))
      simpa using this
    · rw [if_neg h, if_neg h]
      simp
def runesX (s : ByteArray) : Option (List Int) := if (runesL s s.size 0).length ≤ 1000000000 then some (runesL s s.size 0) else none

theorem st_runes {S D T : Nat} {x : Operand} {s : ByteArray} {l : List Int} (ho : o.op = .convert S D x) (hx : ρ x = .string s) (hS : P.underlying S = some .string) (hD : P.underlying D = some (.slice T)) (hT : P.underlying T = some (.int .i32)) (h : St bs w0 w es) (hl : runesX s = some l) :
    ∃ v w', (execOp ρ o).run P w = .ok (.value v) w' ∧ ∃ A' c', v = .slice A' l.length c' ∧ St bs w0 w' (es ++ [rowE .i32 T A' c' l]) := by
  unfold runesX at hl
  split at hl
  · rename_i hlen
    obtain rfl := Option.some.inj hl
    have hR := runesFrom_list s s.size 0 #[]
    rw [show (#[] : Array Value).toList = [] from rfl, List.nil_append] at hR
    have hsz : (Conv.runesFrom s s.size 0 #[]).size = (runesL s s.size 0).length := by rw [← Array.length_toList, hR, List.length_map]
    have hr := run_runes_of_string (P := P) w S D T s hS hD hT (by rw [hsz]; omega)
    have hge := grownCap_ge w (Conv.runesFrom s s.size 0 #[]).size 0 T
    have hle := grownCap_le_maxLen w (Conv.runesFrom s s.size 0 #[]).size 0 T (by rw [hsz]; unfold maxLen; omega)
    rw [hsz] at hr hge hle
    generalize grownCap w (runesL s s.size 0).length 0 T = cap at hr hge hle
    refine ⟨.slice (some ⟨w.heap.size, 0, none⟩) (runesL s s.size 0).length cap, w.drew.alloc (.cells (Conv.runesFrom s s.size 0 #[] ++ Array.replicate (cap - (runesL s s.size 0).length) (.int .i32 0)) T), ?_, some ⟨w.heap.size, 0, none⟩, cap, rfl, ?_⟩
    · unfold execOp
      rw [ho]
      simp only [hx, Sem.run_bind, hr, Result.andThen_ok, Sem.run_pure]
    · refine h.drew.add ((Below.refl _ w.drew).alloc (Nat.le_refl _) _) _ ?_ (fun k hk => ?_)
      · refine ⟨by simp, .inr ⟨w.heap.size, cap, _, rfl, Nat.zero_le _, heap_alloc_new w.drew _, hge, hle, ?_, ?_⟩⟩
        · simp [hsz]; omega
        · simp [hR]
      · simp [rowE, rowG, Value.ownBlock] at hk
        subst hk
        exact ⟨Nat.le_refl _, heap_more _ _⟩
  · cases hl
end
end Go.Proofs.YtbdhgjaoojimmaaDoor
