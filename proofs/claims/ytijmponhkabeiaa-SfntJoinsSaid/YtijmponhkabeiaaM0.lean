/-
  Several texts in one: Num, Or, Open4, All, NumR, TagR.
-/
import Derived.Test.YtijmponhkabeiaaProg
import Derived.WalkKit
import Derived.KernelRfl
import Derived.Below
import Derived.WalkLawsBesides
import Derived.WalkSpells
import Derived.WalkMore
import Derived.Deep.LoopGhost
import Derived.Deep.CutRange
import Derived.Deep.RegionHeld3
import Derived.Lib.Hide
import Derived.ProofKit
import Derived.Laws.AppendOwn
import Derived.Laws.AppendOwnNone
import Derived.Laws.BytesArg
import Derived.Maps.AppendAt
import Derived.Test.YtijmponhkabeiaaRows
import Derived.LaidMore
import Derived.LaidSub
import Derived.OpenShut
import Derived.ChangeOld
import Derived.ChangeSlices
import Derived.ChangeMaps
import Derived.Carry
namespace Go.Proofs.Ytijmponhkabeiaa
open Go Go.RowKit

theorem add_flat (b o i : Nat) : (⟨b, o, none⟩ : Addr).add i = ⟨b, o + i, none⟩ := by unfold Addr.add; split <;> simp_all

theorem heap_more (w : World) (o : Obj) : w.heap.size < (w.alloc o).heap.size := by show w.heap.size < (w.heap.push o).size; simp

theorem heap_plus (w : World) (o : Obj) : (w.alloc o).heap.size = w.heap.size + 1 := by show (w.heap.push o).size = _; simp

theorem own_row_lt {w : World} {k : Nat} {o : Obj} (h : w.heap[k]? = some o) : k < w.heap.size := by
  rcases Nat.lt_or_ge k w.heap.size with h' | h'
  · exact h'
  · rw [Array.getElem?_eq_none h'] at h; cases h

theorem cellsAt_below {w w' : World} {p : Addr} {v : Value} (h : w.cell? p = some v) (hb : Below w.heap.size w w') : w'.cell? p = some v := by
  rw [hb.cell (World.block_lt_of_cell? w _ h)]; exact h

theorem cells_alloc {w : World} {p : Addr} {v : Value} (o : Obj) (h : w.cell? p = some v) : (w.alloc o).cell? p = some v := cellsAt_below h ((Below.refl _ w).alloc (Nat.le_refl _) o)

theorem below_alloc {w w' : World} (o : Obj) (h : Below w.heap.size w w') : Below w.heap.size w (w'.alloc o) := h.alloc h.size o

/-- a value that reads as these numbers -/
def NumZ (k : IntKind) (w : World) (v : Value) (l : List Int) : Prop :=
  ∃ A c, v = .slice A l.length c ∧ l.length ≤ c ∧ c ≤ 9223372036854775807 ∧ (l ≠ [] → ∃ g off, A = some ⟨g, off, none⟩ ∧ g < w.heap.size ∧ ∀ (j : Nat) (h : j < l.length), w.cell? ⟨g, off + j, none⟩ = some (.int k l[j]))

theorem NumZ.below {k : IntKind} {w w' : World} {v : Value} {l : List Int} (h : NumZ k w v l) (hb : Below w.heap.size w w') : NumZ k w' v l := by
  obtain ⟨A, c, e, hc, hc2, hx⟩ := h
  refine ⟨A, c, e, hc, hc2, fun hne => ?_⟩
  obtain ⟨g, off, hA, hg, hcell⟩ := hx hne
  have := hb.size
  exact ⟨g, off, hA, by omega, fun j hj => by rw [hb.cell (by exact hg)]; exact hcell j hj⟩

theorem NumZ.alloc {k : IntKind} {w : World} {v : Value} {l : List Int} (o : Obj) (h : NumZ k w v l) : NumZ k (w.alloc o) v l := h.below ((Below.refl _ w).alloc (Nat.le_refl _) o)

theorem NumZ.cells {k : IntKind} {w : World} {A : Option Addr} {n c : Nat} {l : List Int} (h : NumZ k w (.slice A n c) l) (hne : l ≠ []) : ∃ g off, A = some ⟨g, off, none⟩ ∧ g < w.heap.size ∧ ∀ (j : Nat) (h : j < l.length), w.cell? ⟨g, off + j, none⟩ = some (.int k l[j]) := by
  obtain ⟨A', c', e, _, _, hx⟩ := h
  injection e with e1 e2 e3
  subst e1
  exact hx hne

theorem NumZ.nil (k : IntKind) (w : World) : NumZ k w (.slice none 0 0) [] := ⟨none, 0, rfl, Nat.le_refl _, by decide, fun h => absurd rfl h⟩

theorem num_new (k : IntKind) (w : World) (l : List Int) (t : TypeId) (hlen : l.length ≤ 1000000) : NumZ k (w.alloc (.cells (l.map fun d : Int => Value.int k d).toArray t)) (.slice (some ⟨w.heap.size, 0, none⟩) l.length l.length) l := by
  refine ⟨_, _, rfl, Nat.le_refl _, by omega, fun _ => ⟨w.heap.size, 0, rfl, heap_more _ _, fun j hj => ?_⟩⟩
  rw [Nat.zero_add, cell_of_row _ w.heap.size j _ _ _ (heap_alloc_new w _)]
  simp [hj]

/-- the numbers from a place on -/
theorem NumZ.piece {k : IntKind} {w : World} {g off c : Nat} {l : List Int} (hc : l.length ≤ c) (hc2 : c ≤ 9223372036854775807) (hg : g < w.heap.size) (hcell : ∀ (j : Nat) (h : j < l.length), w.cell? ⟨g, off + j, none⟩ = some (.int k l[j])) (f q : Nat) (hfq : f ≤ q) (hq : q ≤ l.length) :
    NumZ k w (.slice (some ⟨g, off + f, none⟩) (q - f) (c - f)) ((l.drop f).take (q - f)) := by
  have hpl : ((l.drop f).take (q - f)).length = q - f := by simp; omega
  refine ⟨some ⟨g, off + f, none⟩, c - f, by rw [hpl], by omega, by omega, fun _ => ⟨g, off + f, rfl, hg, fun j hj => ?_⟩⟩
  rw [hpl] at hj
  have hj2 : f + j < l.length := by omega
  rw [Nat.add_assoc, hcell (f + j) hj2]
  simp

/-- a row of bytes of the call's own -/
def OwnB (B : Nat) (w : World) (v : Value) (l : List Int) : Prop := w.ownsRow B 5 1 v l.length (l.map fun d : Int => Value.int .u8 d)

theorem OwnB.nil (B : Nat) (w : World) : OwnB B w (.slice none 0 0) [] := World.ownsRow_nil _ _ _ _

theorem OwnB.read {B : Nat} {w : World} {v : Value} {l : List Int} (h : OwnB B w v l) : NumZ .u8 w v l := by
  have h1 : w.ownsRow B 5 1 v l.length (l.map fun d : Int => Value.int .u8 d) := h
  rcases h1.2 with ⟨rfl, h0⟩ | ⟨g, cap, cur, rfl, hb, hg, hc, hm, hs, ht⟩
  · exact ⟨none, 0, by rw [h0], by omega, by omega, fun hne => absurd (List.length_eq_zero_iff.1 h0) hne⟩
  · refine ⟨some ⟨g, 0, none⟩, cap, rfl, hc, by unfold maxLen at hm; omega, fun _ => ⟨g, 0, rfl, own_row_lt hg, fun j hj => ?_⟩⟩
    have := h1.cells (g := g) rfl j (.int .u8 l[j]) (by simp [hj])
    rwa [add_flat] at this

theorem ownB_cases {B : Nat} {w : World} {v : Value} {ds : List Int} (h : OwnB B w v ds) : (∃ A cap, v = .slice A ds.length cap) ∧ ∀ k, v.ownBlock = some k → B ≤ k := by
  have h1 : w.ownsRow B 5 1 v ds.length (ds.map fun d : Int => Value.int .u8 d) := h
  rcases h1.2 with ⟨rfl, h0⟩ | ⟨g, cap, cur, rfl, hb, hg, rest⟩
  · exact ⟨⟨none, 0, by rw [h0]⟩, fun k hk => by simp [Value.ownBlock] at hk⟩
  · exact ⟨⟨_, cap, rfl⟩, fun k hk => by simp [Value.ownBlock] at hk; omega⟩

theorem OwnB.nn {B : Nat} {w : World} {v : Value} {l : List Int} (h : OwnB B w v l) : ∀ n c, v = .slice none n c → n = 0 ∧ c = 0 := by
  have h1 : w.ownsRow B 5 1 v l.length (l.map fun d : Int => Value.int .u8 d) := h
  intro n c hv
  rcases h1.2 with ⟨rfl, h0⟩ | ⟨g, cap, cur, rfl, hb, hg, rest⟩
  · injection hv with _ e1 e2
    exact ⟨e1.symm, e2.symm⟩
  · cases hv

theorem ownB_stays {w w' : World} {B : Nat} {v : Value} {xs : List Int} (h : OwnB B w v xs) (hb : Below w.heap.size w w') : OwnB B w' v xs := by
  have h1 : w.ownsRow B 5 1 v xs.length (xs.map fun d : Int => Value.int .u8 d) := h
  refine ⟨h1.1, ?_⟩
  rcases h1.2 with h2 | ⟨g, cap, cur, e, hB, hg, rest⟩
  · exact .inl h2
  · exact .inr ⟨g, cap, cur, e, hB, by rw [hb.block g (own_row_lt hg)]; exact hg, rest⟩

theorem own_new (B : Nat) (w : World) (l : List Int) (hlen : l.length ≤ 1000000) (hB : B ≤ w.heap.size) : OwnB B (w.alloc (.cells (l.map fun d : Int => Value.int .u8 d).toArray 5)) (.slice (some ⟨w.heap.size, 0, none⟩) l.length l.length) l := by
  refine ⟨by simp, .inr ⟨w.heap.size, l.length, _, rfl, hB, heap_alloc_new w _, Nat.le_refl _, by unfold maxLen; omega, by simp, by simp [List.take_of_length_le]⟩⟩

theorem infoB : (Try.prog.info? 5).map (fun i => (i.zero, i.size, i.bytes)) = some (some (.int .u8 0), 1, 1) := by kernel_rfl

/-- append(s, l...) for bytes -/
theorem wp_append_b {ops : Array Oper} {rest : List Oper} {o : Oper} {a : Act} {Q : Exit → Act → World → Prop} {w : World} (hgd : o.guard = none) (s x : Operand)
    (ho : o.op = .call { callee := .builtin .append, args := #[s, x], argTypes := #[22, 22] })
    (B : Nat) (vs : Value) (l1 : List Int) (hs : a.eval s = vs) (hown : OwnB B w vs l1) (v : Value) (l : List Int) (hx : a.eval x = v) (hv : NumZ .u8 w v l) (hnn : ∀ n c, v = .slice none n c → n = 0 ∧ c = 0) (hl : l1.length + l.length ≤ 1000000000) (hB : B ≤ w.heap.size)
    (h : ∀ v' w', OwnB B w' v' (l1 ++ l) → (∀ w0, Below B w0 w → Below B w0 w') → wpList Try.prog ops Q rest (a.put o.dst v') w') :
    wpList Try.prog ops Q (o :: rest) a w := by
  obtain ⟨i0, hi0I, hz0I, hs0I, hb0I⟩ : ∃ i0, Try.prog.info? 5 = some i0 ∧ i0.zero = some (.int .u8 0) ∧ i0.size = 1 ∧ i0.bytes = 1 := by
    have := infoB
    cases hq : Try.prog.info? 5 with
    | none => rw [hq] at this; cases this
    | some i0 =>
      rw [hq] at this
      simp only [Option.map_some, Option.some.injEq, Prod.mk.injEq] at this
      exact ⟨i0, rfl, this.1, this.2.1, this.2.2⟩
  have hge := (ownB_cases hown).2
  obtain ⟨A, cap, rfl, hcap, hcap2, hc⟩ := hv
  by_cases hne : l = []
  · subst hne
    cases A with
    | none =>
      obtain ⟨_, rfl⟩ := hnn _ _ rfl
      refine wpList_append_own_none (P := Try.prog) hgd s x _ ho B 5 i0 1 Try.underlying22 hi0I _ _ _ hs hown hx ?_
      exact h _ w (by rw [List.append_nil]; exact hown) (fun w0 hb => hb)
    | some ad =>
      refine wpList_append_own_at (P := Try.prog) w hgd s x _ ho B 5 i0 (.int .u8 0) 1 1 Try.underlying22 hi0I hz0I hs0I hb0I rfl (by decide) _ _ _ hs hown ad 0 cap [] hx rfl (by simp) (by simp) (by unfold maxLen; simp at hl; omega) (by simp at hl; omega) hB ?_
      intro v' w' hown' hgrow _ _
      exact h v' w' (by rw [List.append_nil]; simp only [List.append_nil, Nat.add_zero] at hown'; exact hown') (fun w0 hb => hb.grown hgrow hB (fun k hk => hge k hk))
  · obtain ⟨g, off, rfl, hg, hcell⟩ := hc hne
    refine wpList_append_own_at (P := Try.prog) w hgd s x _ ho B 5 i0 (.int .u8 0) 1 1 Try.underlying22 hi0I hz0I hs0I hb0I rfl (by decide) _ _ _ hs hown ⟨g, off, none⟩ l.length cap (l.map fun d : Int => Value.int .u8 d) hx (by simp) ?_ ?_ (by unfold maxLen; omega) (by omega) hB ?_
    · intro j u hj
      rw [add_flat]
      have hj' : j < l.length := by
        rcases Nat.lt_or_ge j l.length with h' | h'
        · exact h'
        · simp [h'] at hj
      rw [hcell j hj']
      simpa [hj'] using hj
    · intro u hu
      obtain ⟨d, _, rfl⟩ := List.mem_map.1 hu
      rfl
    · intro v' w' hown' hgrow _ _
      exact h v' w' (by unfold OwnB; rw [List.length_append, List.map_append]; exact hown') (fun w0 hb => hb.grown hgrow hB (fun k hk => hge k hk))

/-- string(b) -/
theorem conv_b (w : World) (v : Value) (l : List Int) (h : NumZ .u8 w v l) : (convert 22 9 v).run Try.prog w = .ok (.string (strOfNums l)) w := by
  obtain ⟨A, c, rfl, hc, _, hx⟩ := h
  by_cases hne : l = []
  · subst hne
    cases A with
    | none => rw [run_convert_bytes_nil (P := Try.prog) w 22 5 Try.underlying22 Try.underlying5 _ _ _ Try.underlying9]; rfl
    | some ad =>
      rw [run_convert_bytes_string w 22 9 5 _ _ _ Try.underlying22 Try.underlying5 Try.underlying9]
      show (Conv.bytesToString (.slice (some ad) 0 c)).run Try.prog w = _
      rw [run_bytesToString w _ 0 c [] (by simpa using run_loadCells_list (P := Try.prog) w ad [] (fun j v hj => by cases hj))]
      rfl
  · obtain ⟨g, off, rfl, hg, hcell⟩ := hx hne
    exact run_convert_bytes_arg (P := Try.prog) w 22 5 Try.underlying22 Try.underlying5 g off _ c l rfl (fun i hi => by rw [hcell i hi]; simp [hi]) _ Try.underlying9

set_option maxRecDepth 20000 in
theorem sameB_any (l : List Int) (a b : Value) (w : World) (ha : NumZ .u8 w a l) (hb : NumZ .u8 w b l) :
    Calls Try.prog 12 #[a, b] w fun e w' => e = .returned (.bool true) ∧ w = w' := by
  have h1 := conv_b w a l ha
  have h2 := conv_b w b l hb
  obtain ⟨s, hs⟩ : ∃ s, s = strOfNums l := ⟨_, rfl⟩
  rw [← hs] at h1 h2
  clear hs ha hb
  go_enter Try.func12, Try.ntmps12
  go_wp2_with fail
  go_ret
  exact ⟨rfl, rfl⟩
end Go.Proofs.Ytijmponhkabeiaa

namespace Go.Proofs.Ytijmponhkabeiaa
open Go Go.RowKit

theorem wrap_u16 (n : Int) : IntKind.u16.wrap n = n % 65536 := by simp [IntKind.wrap, IntKind.bits, IntKind.signed]
theorem wrap_u32 (n : Int) : IntKind.u32.wrap n = n % 4294967296 := by simp [IntKind.wrap, IntKind.bits, IntKind.signed]
theorem wrap_u8 (n : Int) : IntKind.u8.wrap n = n % 256 := by simp [IntKind.wrap, IntKind.bits, IntKind.signed]
theorem wrap_i16 (n : Int) : IntKind.i16.wrap n = (n + 32768) % 65536 - 32768 := by
  simp [IntKind.wrap, IntKind.bits, IntKind.signed]; split <;> omega

theorem or_nat (a b i : Nat) (h : b < 2 ^ i) : (2 ^ i * a) ||| b = 2 ^ i * a + b := (Nat.two_pow_add_eq_or_of_lt h a).symm

theorem or_u16 (x y : Int) (hx : 0 ≤ x ∧ x ≤ 255) (hy : 0 ≤ y ∧ y ≤ 255) : bits BinOp.or IntKind.u16 (x * 256) y = x * 256 + y := by
  obtain ⟨X, rfl⟩ := Int.eq_ofNat_of_zero_le hx.1
  obtain ⟨Y, rfl⟩ := Int.eq_ofNat_of_zero_le hy.1
  show IntKind.u16.wrap (((BitVec.ofInt 16 ((X : Int) * 256) ||| BitVec.ofInt 16 (Y : Int)).toNat : Nat) : Int) = _
  have e : ((X : Int) * 256) = ((2 ^ 8 * X : Nat) : Int) := by omega
  rw [e, BitVec.toNat_or, BitVec.ofInt_natCast, BitVec.ofInt_natCast, BitVec.toNat_ofNat, BitVec.toNat_ofNat, Nat.mod_eq_of_lt (by omega), Nat.mod_eq_of_lt (by omega), or_nat X Y 8 (by omega), wrap_u16]
  omega

theorem or_u32 (x y : Int) (hx : 0 ≤ x ∧ x ≤ 65535) (hy : 0 ≤ y ∧ y ≤ 65535) : bits BinOp.or IntKind.u32 (x * 65536) y = x * 65536 + y := by
  obtain ⟨X, rfl⟩ := Int.eq_ofNat_of_zero_le hx.1
  obtain ⟨Y, rfl⟩ := Int.eq_ofNat_of_zero_le hy.1
  show IntKind.u32.wrap (((BitVec.ofInt 32 ((X : Int) * 65536) ||| BitVec.ofInt 32 (Y : Int)).toNat : Nat) : Int) = _
  have e : ((X : Int) * 65536) = ((2 ^ 16 * X : Nat) : Int) := by omega
  rw [e, BitVec.toNat_or, BitVec.ofInt_natCast, BitVec.ofInt_natCast, BitVec.toNat_ofNat, BitVec.toNat_ofNat, Nat.mod_eq_of_lt (by omega), Nat.mod_eq_of_lt (by omega), or_nat X Y 16 (by omega), wrap_u32]
  omega

/-- all are bytes -/
def AllB (l : List Int) : Prop := ∀ x ∈ l, 0 ≤ x ∧ x ≤ 255

theorem AllB.get {l : List Int} (h : AllB l) (j : Nat) (hj : j < l.length) : 0 ≤ l[j] ∧ l[j] ≤ 255 := h _ (List.getElem_mem hj)
end Go.Proofs.Ytijmponhkabeiaa

namespace Go.Proofs.Ytijmponhkabeiaa
open Go Go.ChangeShapes Go.WideShapes Go.ChangeAt Go.RowKit

theorem u8_wf {n : Int} (h : (Lit.int .u8 n).wf = true) : 0 ≤ n ∧ n ≤ 255 := by
  simp [Lit.wf, IntKind.min, IntKind.max, IntKind.signed, IntKind.bits, Bool.and_eq_true, decide_eq_true_eq] at h
  omega

theorem nums_in {H : Type} {enc : TypeId × Value → H} {W : World} {t e : TypeId} {k : IntKind} (ht : Try.prog.underlying t = some (.slice e)) (he : Try.prog.underlying e = some (.int k)) (hs : Try.prog.cellsOf e = 1) {a0 : Option Addr} {len0 cap0 : Nat} {d : DataW H} {ps : List MemPlace}
    (h0 : DataW.Trod enc Try.prog W 0 (fun _ => true) true t (.slice a0 len0 cap0) d ps) :
    ∃ l : List Int, (∀ x ∈ l, (Lit.int k x).wf = true) ∧ NumZ k W (.slice a0 len0 cap0) l := by
  obtain ⟨fuel, hf⟩ := h0
  rcases open_ints ht he hs hf with ⟨hcs, _⟩ | ⟨x, l, c, zs, hcs, _, hl, hm, hz, _, hcell, hwz⟩
  · simp [Value.cells] at hcs
    obtain ⟨rfl, rfl, rfl⟩ := hcs
    exact ⟨[], (fun r hr => by cases hr), NumZ.nil _ _⟩
  · simp [Value.cells] at hcs
    obtain ⟨rfl, rfl, rfl⟩ := hcs
    have hz' : zs.length = cap0 := by simpa using hz
    have hlen : (zs.take len0).length = len0 := by simp; omega
    refine ⟨zs.take len0, fun r hr => hwz r (List.mem_of_mem_take hr), some x, cap0, by rw [hlen], by omega, by unfold maxLen at hm; omega, fun hp => ?_⟩
    have hpos : 0 < len0 := by
      rcases Nat.eq_zero_or_pos len0 with h | h
      · rw [h] at hp; exact absurd rfl hp
      · exact h
    obtain ⟨g, off, spot⟩ := x
    have hc0 := hcell 0 (by omega)
    have hspot : spot = none := by simpa [Addr.add] using World.cell?_spot hc0
    subst hspot
    refine ⟨g, off, rfl, ?_, fun j hj => ?_⟩
    · rw [add_flat] at hc0
      exact World.block_lt_of_cell? W _ hc0
    · rw [hlen] at hj
      have hc := hcell j (by omega)
      rw [add_flat] at hc
      rw [hc]
      have hjz : j < zs.length := by omega
      simp [hjz]

theorem nums_nil {H : Type} {enc : TypeId × Value → H} {W : World} {t e : TypeId} {k : IntKind} (ht : Try.prog.underlying t = some (.slice e)) (he : Try.prog.underlying e = some (.int k)) (hs : Try.prog.cellsOf e = 1) {a0 : Option Addr} {len0 cap0 : Nat} {d : DataW H} {ps : List MemPlace}
    (h0 : DataW.Trod enc Try.prog W 0 (fun _ => true) true t (.slice a0 len0 cap0) d ps) : ∀ n c, Value.slice a0 len0 cap0 = .slice none n c → n = 0 ∧ c = 0 := by
  obtain ⟨fuel, hf⟩ := h0
  intro n c hv
  injection hv with e1 e2 e3
  subst e1; subst e2; subst e3
  rcases open_ints ht he hs hf with ⟨hcs, _⟩ | ⟨x, l, c, zs, hcs, _⟩
  · simp [Value.cells] at hcs
    obtain ⟨rfl, rfl⟩ := hcs
    exact ⟨rfl, rfl⟩
  · simp [Value.cells] at hcs

theorem bytes_in {H : Type} {enc : TypeId × Value → H} {W : World} {a0 : Option Addr} {len0 cap0 : Nat} {d : DataW H} {ps : List MemPlace} (h0 : DataW.Trod enc Try.prog W 0 (fun _ => true) true 22 (.slice a0 len0 cap0) d ps) :
    ∃ l : List Int, AllB l ∧ NumZ .u8 W (.slice a0 len0 cap0) l := by
  obtain ⟨l, h1, h2⟩ := nums_in Try.underlying22 Try.underlying5 (by kernel_rfl) h0
  exact ⟨l, fun x hx => u8_wf (h1 x hx), h2⟩

theorem bytes_nil {H : Type} {enc : TypeId × Value → H} {W : World} {a0 : Option Addr} {len0 cap0 : Nat} {d : DataW H} {ps : List MemPlace} (h0 : DataW.Trod enc Try.prog W 0 (fun _ => true) true 22 (.slice a0 len0 cap0) d ps) :
    ∀ n c, Value.slice a0 len0 cap0 = .slice none n c → n = 0 ∧ c = 0 := nums_nil Try.underlying22 Try.underlying5 (by kernel_rfl) h0

theorem longs_in {H : Type} {enc : TypeId × Value → H} {W : World} {a0 : Option Addr} {len0 cap0 : Nat} {d : DataW H} {ps : List MemPlace} (h0 : DataW.Trod enc Try.prog W 0 (fun _ => true) true 69 (.slice a0 len0 cap0) d ps) :
    ∃ l : List Int, (∀ x ∈ l, (Lit.int .i64 x).wf = true) ∧ NumZ .i64 W (.slice a0 len0 cap0) l := nums_in Try.underlying69 Try.underlying2 (by kernel_rfl) h0
end Go.Proofs.Ytijmponhkabeiaa

namespace Go.Proofs.Ytijmponhkabeiaa
open Go Go.RowKit

/-- are n bytes from a place on bytes of a row? -/
def allB (N : Nat) (a n : Int) : Bool := decide (0 ≤ a ∧ 0 ≤ n ∧ a ≤ N ∧ n ≤ N - a)

set_option maxRecDepth 20000 in
theorem all_any (w : World) (A : Option Addr) (N c : Nat) (hN : N ≤ 1000000000) (a n : Int) :
    Calls Try.prog 28 #[.slice A N c, .int .i64 a, .int .i64 n] w fun e w' => e = .returned (.bool (allB N a n)) ∧ w = w' := by
  obtain ⟨R, hR⟩ : ∃ R, R = allB N a n := ⟨_, rfl⟩
  rw [← hR]
  unfold allB at hR
  by_cases h1 : 0 ≤ a
  · by_cases h2 : 0 ≤ n
    · by_cases h3 : a ≤ N
      · obtain ⟨d, hd⟩ : ∃ d, d = (N : Int) - a := ⟨_, rfl⟩
        have q : wrap64 ((N : Int) - a) = d := by rw [hd]; unfold wrap64; omega
        have b1 : (0 ≤ a) = True := eq_true h1
        have b2 : (0 ≤ n) = True := eq_true h2
        have b3 : (a ≤ (N : Int)) = True := eq_true h3
        have HR : Hid (R = decide (n ≤ (N : Int) - a)) := Lib.hid (by rw [hR]; congr 1; simp [h1, h2, h3])
        rw [← hd] at HR
        by_cases h4 : n ≤ d
        · have b4 : (n ≤ d) = True := eq_true h4
          have HV : Hid (R = true) := Lib.hid (by rw [HR.out]; simp [h4])
          clear hR h1 h2 h3 h4 hd
          go_enter Try.func28, Try.ntmps28
          go_wp2_with fail
          go_ret
          exact ⟨by rw [HV.out]; rfl, rfl⟩
        · have b4 : (n ≤ d) = False := eq_false h4
          have HV : Hid (R = false) := Lib.hid (by rw [HR.out]; simp [h4])
          clear hR h1 h2 h3 h4 hd
          go_enter Try.func28, Try.ntmps28
          go_wp2_with fail
          go_ret
          exact ⟨by rw [HV.out]; rfl, rfl⟩
      · have b1 : (0 ≤ a) = True := eq_true h1
        have b2 : (0 ≤ n) = True := eq_true h2
        have b3 : (a ≤ (N : Int)) = False := eq_false h3
        have HV : Hid (R = false) := Lib.hid (by rw [hR]; simp [h3])
        clear hR h1 h2 h3
        go_enter Try.func28, Try.ntmps28
        go_wp2_with fail
        go_ret
        exact ⟨by rw [HV.out]; rfl, rfl⟩
    · have b1 : (0 ≤ a) = True := eq_true h1
      have b2 : (0 ≤ n) = False := eq_false h2
      have HV : Hid (R = false) := Lib.hid (by rw [hR]; simp [h2])
      clear hR h1 h2
      go_enter Try.func28, Try.ntmps28
      go_wp2_with fail
      go_ret
      exact ⟨by rw [HV.out]; rfl, rfl⟩
  · have b1 : (0 ≤ a) = False := eq_false h1
    have HV : Hid (R = false) := Lib.hid (by rw [hR]; simp [h1])
    clear hR h1
    go_enter Try.func28, Try.ntmps28
    go_wp2_with fail
    go_ret
    exact ⟨by rw [HV.out]; rfl, rfl⟩
end Go.Proofs.Ytijmponhkabeiaa

namespace Go.Proofs.Ytijmponhkabeiaa
open Go Go.RowKit

/-- the number of n bytes from a place on -/
def numF (l : List Int) (p : Nat) : Nat → Int
  | 0 => 0
  | n + 1 => numF l p n * 256 + l.getD (p + n) 0

/-- .. or 0, if they are not all there -/
def numAt (l : List Int) (p : Int) (n : Nat) : Int := if allB l.length p n = true then numF l p.toNat n else 0

theorem getD_b {l : List Int} (hA : AllB l) (j : Nat) : 0 ≤ l.getD j 0 ∧ l.getD j 0 ≤ 255 := by
  rw [List.getD_eq_getElem?_getD]
  cases hj : l[j]? with
  | none => simp
  | some x => exact hA x (List.mem_of_getElem? hj)

theorem numF_b {l : List Int} (hA : AllB l) (p : Nat) : ∀ n, 0 ≤ numF l p n ∧ numF l p n < 256 ^ n := by
  intro n
  induction n with
  | zero => simp [numF]
  | succ n ih =>
    have h := getD_b hA (p + n)
    rw [numF, Int.pow_succ]
    omega

theorem numAt_b {l : List Int} (hA : AllB l) (p : Int) (n : Nat) : 0 ≤ numAt l p n ∧ numAt l p n < 256 ^ n := by
  unfold numAt
  split
  · exact numF_b hA _ n
  · have h : (0 : Int) < 256 ^ n := Int.pow_pos (by decide)
    exact ⟨Int.le_refl _, h⟩

def NRel (w : World) (l : List Int) (p n k : Nat) (vx vi : Value) (wr : World) : Prop := ∃ i : Nat, i + k = n ∧ vi = .int .i64 (i : Int) ∧ vx = .int .u32 (numF l p i) ∧ wr.heap = w.heap ∧ Below w.heap.size w wr

set_option maxHeartbeats 4000000 in
set_option maxRecDepth 20000 in
theorem number_any (w : World) (v : Value) (l : List Int) (hv : NumZ .u8 w v l) (hA : AllB l) (hl : l.length ≤ 1000000) (p : Int) (n : Nat) (hn : n ≤ 4) :
    Calls Try.prog 56 #[v, .int .i64 p, .int .i64 (n : Int)] w fun e w' => e = .returned (.int .u32 (numAt l p n)) ∧ Below w.heap.size w w' := by
  have HV := Lib.hid hv
  obtain ⟨A, c, rfl, _, _, _⟩ := hv
  rename_i g1 g2 g3
  have HAL := all_any w A l.length c (by omega) p n
  by_cases ha : allB l.length p n = true
  · have ha' := ha
    unfold allB at ha'
    rw [decide_eq_true_eq] at ha'
    rw [ha] at HAL
    have HAL := Lib.hid HAL
    obtain ⟨q, rfl⟩ := Int.eq_ofNat_of_zero_le ha'.1
    have HR : Hid (numAt l (q : Int) n = numF l q n) := Lib.hid (by unfold numAt; rw [if_pos ha]; rfl)
    have hqn : q + n ≤ l.length := by omega
    generalize numAt l (q : Int) n = R at HR ⊢
    obtain ⟨N, hN⟩ : ∃ N, N = l.length := ⟨_, rfl⟩
    have HN := Lib.hid hN
    have HAA := Lib.hid hA
    rw [← hN] at HAL HV hqn hl ⊢
    have HQN := Lib.hid hqn
    have HNB : Hid (∀ i, 0 ≤ numF l q i ∧ numF l q i < 256 ^ i) := Lib.hid (fun i => numF_b hA q i)
    clear g1 g2 g3 ha ha' hN hA hqn
    go_enter Try.func56, Try.ntmps56
    go_wp2_with fail
    refine (HAL.out).mono ?_
    rintro e w0 ⟨rfl, rfl⟩
    go_wp2_with fail
    go_loopg [7, 8] n (fun k vx vi wr => NRel w l q n k vx vi wr)
    case atStart => exact ⟨0, by omega, rfl, rfl, rfl, Below.refl _ _⟩
    case round =>
      obtain ⟨i, hik, rfl, rfl, hh, hb⟩ := hrel
      have HB := Lib.hid hb
      have HH := Lib.hid hh
      have HIK := Lib.hid hik
      by_cases hi : i = n
      · have bi : ((i : Int) < (n : Int)) = False := eq_false (by omega)
        have HE : Hid (numF l q i = R) := Lib.hid (by rw [hi, HR.out])
        generalize numF l q i = x at HE ⊢
        clear hi hik hb hh
        go_wp2_with fail
        go_ret
        exact ⟨by rw [HE.out]; rfl, HB.out⟩
      · have bi : ((i : Int) < (n : Int)) = True := eq_true (by omega)
        have hil : q + i < l.length := by have := HQN.out; have := HN.out; omega
        obtain ⟨g, off, rfl, _, hc⟩ := (HV.out.below hb).cells (by rintro rfl; simp at hil)
        have cx := hc (q + i) hil
        have hxb := HAA.out.get (q + i) hil
        have hnx : numF l q (i + 1) = numF l q i * 256 + l[q + i] := by rw [numF]; simp [hil]
        obtain ⟨x, hx⟩ : ∃ x, x = l[q + i] := ⟨_, rfl⟩
        rw [← hx] at cx hxb hnx
        have h1 := HNB.out i
        have h2 := HNB.out (i + 1)
        have hi4 : i + 1 ≤ 4 := by omega
        have hpow : (256 : Int) ^ (i + 1) ≤ 4294967296 := by
          rcases (show i = 0 ∨ i = 1 ∨ i = 2 ∨ i = 3 by omega) with rfl | rfl | rfl | rfl <;> decide
        obtain ⟨y, hy⟩ : ∃ y, y = numF l q i := ⟨_, rfl⟩
        rw [← hy] at hnx h1 ⊢
        obtain ⟨z, hz⟩ : ∃ z, z = numF l q (i + 1) := ⟨_, rfl⟩
        rw [← hz] at hnx h2
        have hz32 : z < 4294967296 := Int.lt_of_lt_of_le h2.2 hpow
        have hy32 : y * 256 < 4294967296 := by omega
        obtain ⟨qi, hqi⟩ : ∃ qi, qi = q + i := ⟨_, rfl⟩
        obtain ⟨i1, hi1⟩ : ∃ i1, i1 = i + 1 := ⟨_, rfl⟩
        rw [← hqi] at cx
        have hz0 := h2.1
        have hy0 := h1.1
        clear h1 h2 hpow
        have u1 : IntKind.u32.wrap (y * 256) = y * 256 := by rw [wrap_u32]; omega
        have u2 : IntKind.u32.wrap x = x := by rw [wrap_u32]; omega
        have u3 : IntKind.u32.wrap (y * 256 + x) = z := by rw [wrap_u32]; omega
        have q1 : IntKind.i64.wrap ((q : Int) + (i : Int)) = (qi : Int) := by rw [IntKind.wrap_i64]; have := HN.out; omega
        have q2 : IntKind.i64.wrap ((i : Int) + 1) = (i1 : Int) := by rw [IntKind.wrap_i64]; omega
        have i0 : (0 : Int) ≤ (qi : Int) := Int.natCast_nonneg _
        have iN : (qi : Int) < (N : Int) := by have := HN.out; omega
        have HI1 := Lib.hid hi1
        have HZ := Lib.hid hz
        have HIN := Lib.hid hi
        clear hi hik hb hh hc hx hxb hnx hz0 hy0 hi4 hz32 hy32 hy hz hqi hi1 hil
        go_wp2_with fail
        go_roundg (gk - 1)
        case measure => have := HIK.out; have := HIN.out; omega
        case rel => exact ⟨i1, by have := HIK.out; have := HIN.out; have := HI1.out; omega, by first | rfl | exact congrArg _ (by omega), by rw [HI1.out, ← HZ.out], HH.out, HB.out⟩
  · have hR : allB l.length p n = false := by simpa using ha
    rw [hR] at HAL
    have HAL := Lib.hid HAL
    have HR : Hid (numAt l p n = 0) := Lib.hid (by unfold numAt; rw [if_neg ha])
    generalize numAt l p n = R at HR ⊢
    clear g1 g2 g3 hA ha hR HV
    generalize l.length = N at HAL ⊢
    go_enter Try.func56, Try.ntmps56
    go_wp2_with fail
    refine (HAL.out).mono ?_
    rintro e w0 ⟨rfl, rfl⟩
    go_wp2_with fail
    go_ret
    exact ⟨by rw [HR.out]; rfl, Below.refl _ _⟩

set_option maxRecDepth 20000 in
theorem w_any (w : World) (v : Value) (l : List Int) (hv : NumZ .u8 w v l) (hA : AllB l) (hl : l.length ≤ 1000000) (p : Int) :
    Calls Try.prog 25 #[v, .int .i64 p] w fun e w' => e = .returned (.int .i64 (numAt l p 2)) ∧ Below w.heap.size w w' := by
  have HH := Lib.hid (number_any w v l hv hA hl p 2 (by decide))
  have hb := numAt_b hA p 2
  generalize numAt l p 2 = R at HH hb ⊢
  have q1 : IntKind.i64.wrap R = R := by rw [IntKind.wrap_i64]; omega
  clear hb hv hA hl
  go_enter Try.func25, Try.ntmps25
  go_wp2_with fail
  refine (HH.out).mono ?_
  rintro e w0 ⟨rfl, hb⟩
  go_wp2_with fail
  go_ret
  exact ⟨rfl, hb⟩

set_option maxRecDepth 20000 in
theorem l_any (w : World) (v : Value) (l : List Int) (hv : NumZ .u8 w v l) (hA : AllB l) (hl : l.length ≤ 1000000) (p : Int) :
    Calls Try.prog 27 #[v, .int .i64 p] w fun e w' => e = .returned (.int .i64 (numAt l p 4)) ∧ Below w.heap.size w w' := by
  have HH := Lib.hid (number_any w v l hv hA hl p 4 (by decide))
  have hb := numAt_b hA p 4
  generalize numAt l p 4 = R at HH hb ⊢
  have q1 : IntKind.i64.wrap R = R := by rw [IntKind.wrap_i64]; omega
  clear hb hv hA hl
  go_enter Try.func27, Try.ntmps27
  go_wp2_with fail
  refine (HH.out).mono ?_
  rintro e w0 ⟨rfl, hb⟩
  go_wp2_with fail
  go_ret
  exact ⟨rfl, hb⟩

set_option maxRecDepth 20000 in
theorem s_any (w : World) (v : Value) (l : List Int) (hv : NumZ .u8 w v l) (hA : AllB l) (hl : l.length ≤ 1000000) (p : Int) :
    Calls Try.prog 45 #[v, .int .i64 p] w fun e w' => e = .returned (.int .i64 (IntKind.i16.wrap (numAt l p 2))) ∧ Below w.heap.size w w' := by
  have HH := Lib.hid (number_any w v l hv hA hl p 2 (by decide))
  generalize numAt l p 2 = R at HH ⊢
  obtain ⟨V, hV⟩ : ∃ V, V = IntKind.i16.wrap R := ⟨_, rfl⟩
  have q0 : IntKind.i16.wrap R = V := hV.symm
  have q1 : IntKind.i64.wrap V = V := by rw [IntKind.wrap_i64, hV, wrap_i16]; omega
  rw [← hV]
  clear hv hA hl hV
  go_enter Try.func45, Try.ntmps45
  go_wp2_with fail
  refine (HH.out).mono ?_
  rintro e w0 ⟨rfl, hb⟩
  go_wp2_with fail
  go_ret
  exact ⟨rfl, hb⟩
end Go.Proofs.Ytijmponhkabeiaa

namespace Go.Proofs.Ytijmponhkabeiaa
open Go Go.RowKit

/-- is a name ahead of another one? -/
def lessL : List Int → List Int → Bool
  | x :: a, y :: b => if x = y then lessL a b else decide (x < y)
  | _, _ => false

/-- a name's value -/
def tagV (t : List Int) : Value := .agg (t.map fun x => Value.int .u8 x).toArray

def LsRel (w2 : World) (a b : List Int) (k : Nat) (vi : Value) (wr : World) : Prop := ∃ i : Nat, i + k = 4 ∧ vi = .int .i64 (i : Int) ∧ lessL a b = lessL (a.drop i) (b.drop i) ∧ Below w2.heap.size w2 wr

theorem less_step {a b : List Int} {i : Nat} (ha : i < a.length) (hb : i < b.length) (h : lessL a b = lessL (a.drop i) (b.drop i)) : (a[i] = b[i] → lessL a b = lessL (a.drop (i + 1)) (b.drop (i + 1))) ∧ (a[i] ≠ b[i] → lessL a b = decide (a[i] < b[i])) := by
  rw [List.drop_eq_getElem_cons ha, List.drop_eq_getElem_cons hb] at h
  constructor
  · intro he; rw [h, lessL, if_pos he]
  · intro he; rw [h, lessL, if_neg he]

set_option maxHeartbeats 4000000 in
set_option maxRecDepth 20000 in
theorem less_any (w : World) (a b : List Int) (ha : a.length = 4) (hb : b.length = 4) : Calls Try.prog 30 #[tagV a, tagV b] w fun e w' => e = .returned (.bool (lessL a b)) ∧ Below w.heap.size w w' := by
  obtain ⟨R, hR⟩ : ∃ R, R = lessL a b := ⟨_, rfl⟩
  rw [← hR]
  have HR := Lib.hid hR
  obtain ⟨va, hva⟩ : ∃ va, va = (a.map fun x => Value.int .u8 x).toArray := ⟨_, rfl⟩
  obtain ⟨vb, hvb⟩ : ∃ vb, vb = (b.map fun x => Value.int .u8 x).toArray := ⟨_, rfl⟩
  unfold tagV
  rw [← hva, ← hvb]
  obtain ⟨w1, hw1⟩ : ∃ w1, w.alloc (.cells va 39) = w1 := ⟨_, rfl⟩
  obtain ⟨w2, hw2⟩ : ∃ w2, w1.alloc (.cells vb 39) = w2 := ⟨_, rfl⟩
  have hs1 : w1.heap.size = w.heap.size + 1 := by rw [← hw1, heap_plus]
  have HB2 : Hid (Below w.heap.size w w2) := Lib.hid (by rw [← hw2, ← hw1]; exact below_alloc _ (below_alloc _ (Below.refl _ w)))
  have HCA : Hid (∀ wx, Below w2.heap.size w2 wx → ∀ i (h : i < a.length), wx.cell? ⟨w.heap.size, i, none⟩ = some (.int .u8 a[i])) := Lib.hid (fun wx hx i hi => by
    refine cellsAt_below ?_ hx
    rw [← hw2]
    refine cells_alloc _ ?_
    rw [← hw1, cell_of_row _ w.heap.size i _ _ _ (heap_alloc_new w _), hva]
    simp [hi])
  have HCB : Hid (∀ wx, Below w2.heap.size w2 wx → ∀ i (h : i < b.length), wx.cell? ⟨w1.heap.size, i, none⟩ = some (.int .u8 b[i])) := Lib.hid (fun wx hx i hi => by
    refine cellsAt_below ?_ hx
    rw [← hw2, cell_of_row _ w1.heap.size i _ _ _ (heap_alloc_new w1 _), hvb]
    simp [hi])
  have HLA := Lib.hid ha
  have HLB := Lib.hid hb
  clear ha hb hva hvb hR hs1
  go_enter Try.func30, Try.ntmps30
  go_wp2_with fail
  clear hw1 hw2
  obtain ⟨pa, hpa⟩ : ∃ pa, pa = w.heap.size := ⟨_, rfl⟩
  have HPA := Lib.hid hpa
  go_loopg [5] 4 (fun k vi wr => LsRel w2 a b k vi wr)
  case atStart => exact ⟨0, rfl, rfl, rfl, Below.refl _ _⟩
  case round =>
    obtain ⟨i, hik, rfl, hle, hbw⟩ := hrel
    have HB := Lib.hid hbw
    have HIK := Lib.hid hik
    by_cases hi : i = 4
    · have bi : ((i : Int) < 4) = False := eq_false (by omega)
      have HF : Hid (R = false) := Lib.hid (by
        rw [HR.out, hle, hi, List.drop_of_length_le (by have := HLA.out; omega)]; rfl)
      clear hi hik hle hbw hpa
      go_wp2_with fail
      go_ret
      exact ⟨by rw [HF.out]; rfl, HB2.out.trans (HB.out.mono HB2.out.size)⟩
    · have bi : ((i : Int) < 4) = True := eq_true (by omega)
      have i0 : (0 : Int) ≤ (i : Int) := Int.natCast_nonneg _
      have i4 : (i : Int) < 4 := by omega
      have hia : i < a.length := by have := HLA.out; omega
      have hib : i < b.length := by have := HLB.out; omega
      obtain ⟨h1, h2⟩ := less_step hia hib hle
      have ca := HCA.out wr hbw i hia
      have cb := HCB.out wr hbw i hib
      obtain ⟨x, hx⟩ : ∃ x, x = a[i] := ⟨_, rfl⟩
      obtain ⟨y, hy⟩ : ∃ y, y = b[i] := ⟨_, rfl⟩
      rw [← hx] at ca h1 h2
      rw [← hy] at cb h1 h2
      have HH1 := Lib.hid h1
      have HH2 := Lib.hid h2
      obtain ⟨i1, hi1⟩ : ∃ i1, i1 = i + 1 := ⟨_, rfl⟩
      have q1 : IntKind.i64.wrap ((i : Int) + 1) = (i1 : Int) := by rw [IntKind.wrap_i64]; omega
      have HI1 := Lib.hid hi1
      have HIN := Lib.hid hi
      clear hi hik hle hbw hx hy h1 h2 hi1 hia hib hpa
      go_upto_region 4 with fail
      go_cut [16] from 6 to 23 (fun s wx => s = .bool (x != y) ∧ Below wr.heap.size wr wx)
      case first =>
        go_region_held3 (fun w' => w'.cell? ⟨w.heap.size, i, none⟩ = some (.int .u8 x) ∧ w'.cell? ⟨w1.heap.size, i, none⟩ = some (.int .u8 y) ∧ Below wr.heap.size wr w') (first | assumption | (go_split_ands; exact ⟨ca, cb, (Below.refl _ wr).drew⟩) | (go_split_ands; exact ⟨by assumption, by assumption, by assumption⟩)) (fail)
        all_goals (go_wp2_with fail; go_meet; go_split_ands; exact ⟨rfl, by assumption⟩)
      case rest =>
        obtain ⟨rfl, hb5⟩ := hcut
        have HB5 := Lib.hid (HB.out.trans (hb5.mono HB.out.size))
        have ca5 := cellsAt_below ca hb5
        have cb5 := cellsAt_below cb hb5
        clear hb5 ca cb
        by_cases hxy : x = y
        · have bx : (x != y) = false := by simp [hxy]
          have HNX : Hid (lessL a b = lessL (a.drop i1) (b.drop i1)) := Lib.hid (by rw [HI1.out]; exact HH1.out hxy)
          rw [bx]
          clear hxy bx ca5 cb5
          go_wp2_with fail
          go_roundg (gk - 1)
          case measure => have := HIK.out; have := HIN.out; omega
          case rel => exact ⟨i1, by have := HIK.out; have := HIN.out; have := HI1.out; omega, by first | rfl | exact congrArg _ (by omega), HNX.out, HB5.out⟩
        · have bx : (x != y) = true := by simp [hxy]
          have HV : Hid (R = decide (x < y)) := Lib.hid (by rw [HR.out]; exact HH2.out hxy)
          rw [bx]
          clear hxy bx
          go_wp2_with fail
          go_region_held3 (fun w' => w'.cell? ⟨w.heap.size, i, none⟩ = some (.int .u8 x) ∧ w'.cell? ⟨w1.heap.size, i, none⟩ = some (.int .u8 y) ∧ Below wc.heap.size wc w') (first | assumption | (go_split_ands; exact ⟨ca5, cb5, (Below.refl _ wc).drew⟩) | (go_split_ands; exact ⟨by assumption, by assumption, by assumption⟩)) (fail)
          all_goals go_wp2_with fail
          all_goals go_split_ands
          go_ret
          exact ⟨by rw [HV.out]; rfl, HB2.out.trans ((HB5.out.trans ((show Below wc.heap.size wc _ by assumption).mono HB5.out.size)).mono HB2.out.size)⟩
end Go.Proofs.Ytijmponhkabeiaa
