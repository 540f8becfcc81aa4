/-
  Slices of numbers that came in, as the walks ask them.
-/
import Derived.Test.YtbdhgjaoojimmaaDoorRows
import Derived.Test.YtbdhgjaoojimmaaDoorGp
import Derived.ProofKit
import Derived.LaidMore
import Derived.LaidSub
import Derived.OpenShut
import Derived.ChangeOld
import Derived.ChangeSlices
import Derived.ChangeMaps
import Derived.Carry
namespace Go.Proofs.YtbdhgjaoojimmaaDoor
open Go Go.ChangeShapes Go.WideShapes Go.ChangeAt Go.RowKit

theorem u8_wf {n : Int} (h : (Lit.int .u8 n).wf = true) : 0 ≤ n ∧ n ≤ 255 := by
  simp [Lit.wf, IntKind.min, IntKind.max, IntKind.signed, IntKind.bits, Bool.and_eq_true, decide_eq_true_eq] at h
  omega

theorem nums_in {H : Type} {enc : TypeId × Value → H} {W : World} {t e : TypeId} {k : IntKind} (ht : Tryd.prog.underlying t = some (.slice e)) (he : Tryd.prog.underlying e = some (.int k)) (hs : Tryd.prog.cellsOf e = 1) {a0 : Option Addr} {len0 cap0 : Nat} {d : DataW H} {ps : List MemPlace}
    (h0 : DataW.Trod enc Tryd.prog W 0 (fun _ => true) true t (.slice a0 len0 cap0) d ps) :
    ∃ l : List Int, (∀ x ∈ l, (Lit.int k x).wf = true) ∧ NumZ k W (.slice a0 len0 cap0) l := by
  obtain ⟨fuel, hf⟩ := h0
  rcases open_ints ht he hs hf with ⟨hcs, _⟩ | ⟨x, l, c, zs, hcs, _, hl, hm, hz, _, hcell, hwz⟩
  · simp [Value.cells] at hcs
    obtain ⟨rfl, rfl, rfl⟩ := hcs
    exact ⟨[], (fun r hr => by cases hr), NumZ.nil _ _⟩
  · simp [Value.cells] at hcs
    obtain ⟨rfl, rfl, rfl⟩ := hcs
    have hz' : zs.length = cap0 := by simpa using hz
    have hlen : (zs.take len0).length = len0 := by simp; omega
    refine ⟨zs.take len0, fun r hr => hwz r (List.mem_of_mem_take hr), some x, cap0, by rw [hlen], by omega, by unfold maxLen at hm; omega, fun hp => ?_⟩
    have hpos : 0 < len0 := by
      rcases Nat.eq_zero_or_pos len0 with h | h
      · rw [h] at hp; exact absurd rfl hp
      · exact h
    obtain ⟨g, off, spot⟩ := x
    have hc0 := hcell 0 (by omega)
    have hspot : spot = none := by simpa [Addr.add] using World.cell?_spot hc0
    subst hspot
    refine ⟨g, off, rfl, ?_, fun j hj => ?_⟩
    · rw [add_flat] at hc0
      exact World.block_lt_of_cell? W _ hc0
    · rw [hlen] at hj
      have hc := hcell j (by omega)
      rw [add_flat] at hc
      rw [hc]
      have hjz : j < zs.length := by omega
      simp [hjz]

theorem nums_nil {H : Type} {enc : TypeId × Value → H} {W : World} {t e : TypeId} {k : IntKind} (ht : Tryd.prog.underlying t = some (.slice e)) (he : Tryd.prog.underlying e = some (.int k)) (hs : Tryd.prog.cellsOf e = 1) {a0 : Option Addr} {len0 cap0 : Nat} {d : DataW H} {ps : List MemPlace}
    (h0 : DataW.Trod enc Tryd.prog W 0 (fun _ => true) true t (.slice a0 len0 cap0) d ps) : ∀ n c, Value.slice a0 len0 cap0 = .slice none n c → n = 0 ∧ c = 0 := by
  obtain ⟨fuel, hf⟩ := h0
  intro n c hv
  injection hv with e1 e2 e3
  subst e1; subst e2; subst e3
  rcases open_ints ht he hs hf with ⟨hcs, _⟩ | ⟨x, l, c, zs, hcs, _⟩
  · simp [Value.cells] at hcs
    obtain ⟨rfl, rfl⟩ := hcs
    exact ⟨rfl, rfl⟩
  · simp [Value.cells] at hcs

theorem u16_wf {n : Int} (h : (Lit.int .u16 n).wf = true) : 0 ≤ n ∧ n ≤ 65535 := by
  simp [Lit.wf, IntKind.min, IntKind.max, IntKind.signed, IntKind.bits, Bool.and_eq_true, decide_eq_true_eq] at h
  omega

theorem num_len {k : IntKind} {w : World} {A : Option Addr} {n c : Nat} {l : List Int} (h : NumZ k w (.slice A n c) l) : n = l.length := by
  obtain ⟨A', c', e, _⟩ := h
  injection e

theorem vw_in {k : IntKind} {w : World} {A : Option Addr} {n c : Nat} {l : List Int} (h : NumZ k w (.slice A n c) l) (hn : ∀ m d, Value.slice A n c = .slice none m d → m = 0 ∧ d = 0) : n = l.length ∧ Vw [] k w A c l := by
  obtain rfl := num_len h
  exact ⟨rfl, Vw.of h (fun e => by subst e; exact (hn _ _ rfl).2)⟩

theorem vlev_in {H : Type} {enc : TypeId × Value → H} {W : World} {a0 : Option Addr} {len0 cap0 : Nat} {d : DataW H} {ps : List MemPlace} (h0 : DataW.Trod enc Tryd.prog W 0 (fun _ => true) true 24 (.slice a0 len0 cap0) d ps) :
    ∃ l : List Int, (∀ x ∈ l, 0 ≤ x ∧ x ≤ 255) ∧ (len0 = l.length ∧ Vw [] .u8 W a0 cap0 l) := by
  obtain ⟨l, h1, h2⟩ := nums_in Tryd.underlying24 Tryd.underlying5 (by kernel_rfl) h0
  exact ⟨l, fun x hx => u8_wf (h1 x hx), vw_in h2 (nums_nil Tryd.underlying24 Tryd.underlying5 (by kernel_rfl) h0)⟩

theorem i32_wf {n : Int} (h : (Lit.int .i32 n).wf = true) : -2147483648 ≤ n ∧ n ≤ 2147483647 := by
  simp [Lit.wf, IntKind.min, IntKind.max, IntKind.signed, IntKind.bits, Bool.and_eq_true, decide_eq_true_eq] at h
  omega
theorem vrunes_in {H : Type} {enc : TypeId × Value → H} {W : World} {a0 : Option Addr} {len0 cap0 : Nat} {d : DataW H} {ps : List MemPlace} (h0 : DataW.Trod enc Tryd.prog W 0 (fun _ => true) true 22 (.slice a0 len0 cap0) d ps) :
    ∃ l : List Int, (∀ x ∈ l, -2147483648 ≤ x ∧ x ≤ 2147483647) ∧ (len0 = l.length ∧ Vw [] .i32 W a0 cap0 l) := by
  obtain ⟨l, h1, h2⟩ := nums_in Tryd.underlying22 Tryd.underlying21 (by kernel_rfl) h0
  exact ⟨l, fun x hx => i32_wf (h1 x hx), vw_in h2 (nums_nil Tryd.underlying22 Tryd.underlying21 (by kernel_rfl) h0)⟩

end Go.Proofs.YtbdhgjaoojimmaaDoor
