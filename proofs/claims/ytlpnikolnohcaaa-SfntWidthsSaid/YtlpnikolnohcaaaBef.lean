/-
  sfnt.before: does a name rise to the next one?
-/
import Derived.Test.YtlpnikolnohcaaaSumR
import Derived.Laws.Externs
import Derived.Handy
namespace Go.Proofs.Ytlpnikolnohcaaa
open Go Go.RowKit

theorem cmp_four (u0 u1 u2 u3 v0 v1 v2 v3 : UInt8) : Extern.BytealgCompare.cmp ⟨#[u0, u1, u2, u3]⟩ ⟨#[v0, v1, v2, v3]⟩ =
    if u0 != v0 then (if u0 < v0 then -1 else 1) else if u1 != v1 then (if u1 < v1 then -1 else 1) else if u2 != v2 then (if u2 < v2 then -1 else 1) else if u3 != v3 then (if u3 < v3 then -1 else 1) else 0 := by
  have hr : List.range (min (⟨#[u0, u1, u2, u3]⟩ : ByteArray).size (⟨#[v0, v1, v2, v3]⟩ : ByteArray).size) = [0, 1, 2, 3] := rfl
  have a0 : (⟨#[u0, u1, u2, u3]⟩ : ByteArray)[0]! = u0 := rfl
  have a1 : (⟨#[u0, u1, u2, u3]⟩ : ByteArray)[1]! = u1 := rfl
  have a2 : (⟨#[u0, u1, u2, u3]⟩ : ByteArray)[2]! = u2 := rfl
  have a3 : (⟨#[u0, u1, u2, u3]⟩ : ByteArray)[3]! = u3 := rfl
  have b0 : (⟨#[v0, v1, v2, v3]⟩ : ByteArray)[0]! = v0 := rfl
  have b1 : (⟨#[v0, v1, v2, v3]⟩ : ByteArray)[1]! = v1 := rfl
  have b2 : (⟨#[v0, v1, v2, v3]⟩ : ByteArray)[2]! = v2 := rfl
  have b3 : (⟨#[v0, v1, v2, v3]⟩ : ByteArray)[3]! = v3 := rfl
  have s1 : (⟨#[u0, u1, u2, u3]⟩ : ByteArray).size = 4 := rfl
  have s2 : (⟨#[v0, v1, v2, v3]⟩ : ByteArray).size = 4 := rfl
  unfold Extern.BytealgCompare.cmp
  rw [hr]
  simp only [List.find?_cons, List.find?_nil, a0, a1, a2, a3, b0, b1, b2, b3, s1, s2]
  cases h0 : (u0 != v0)
  · cases h1 : (u1 != v1)
    · cases h2 : (u2 != v2)
      · cases h3 : (u3 != v3)
        · simp
        · simp [a3, b3]
      · simp [a2, b2]
    · simp [a1, b1]
  · simp [a0, b0]

/-- names as bytes -/
def tagB (us : List UInt8) : List Int := us.map fun u => ((u.toNat : Nat) : Int)

theorem cmp_less (u0 u1 u2 u3 v0 v1 v2 v3 : UInt8) : decide (Extern.BytealgCompare.cmp ⟨#[u0, u1, u2, u3]⟩ ⟨#[v0, v1, v2, v3]⟩ < 0) = lessL (tagB [u0, u1, u2, u3]) (tagB [v0, v1, v2, v3]) := by
  rw [cmp_four]
  have key : ∀ (u v : UInt8), ((u != v) = false ↔ ((u.toNat : Nat) : Int) = ((v.toNat : Nat) : Int)) ∧ (u < v ↔ ((u.toNat : Nat) : Int) < ((v.toNat : Nat) : Int)) := by
    intro u v
    refine ⟨?_, ?_⟩
    · rw [bne_eq_false_iff_eq]
      exact ⟨fun h => by rw [h], fun h => UInt8.toNat_inj.1 (by omega)⟩
    · rw [UInt8.lt_iff_toNat_lt]; omega
  have step : ∀ (u v : UInt8) (x : Int) (y : Bool), decide (x < 0) = y → decide ((if u != v then (if u < v then (-1 : Int) else 1) else x) < 0) = if ((u.toNat : Nat) : Int) = ((v.toNat : Nat) : Int) then y else decide (((u.toNat : Nat) : Int) < ((v.toNat : Nat) : Int)) := by
    intro u v x y hxy
    cases h : (u != v) with
    | false => rw [if_pos ((key u v).1.1 h)]; simpa using hxy
    | true =>
      have hne : ¬ ((u.toNat : Nat) : Int) = ((v.toNat : Nat) : Int) := fun e => by rw [(key u v).1.2 e] at h; cases h
      rw [if_neg hne, if_pos rfl]
      by_cases hl : u < v
      · rw [if_pos hl, decide_eq_true ((key u v).2.1 hl)]; rfl
      · have hn : ¬ ((u.toNat : Nat) : Int) < ((v.toNat : Nat) : Int) := fun e => hl ((key u v).2.2 e)
        rw [if_neg hl, decide_eq_false hn]; rfl
  simp only [tagB, List.map_cons, List.map_nil, lessL]
  exact step _ _ _ _ (step _ _ _ _ (step _ _ _ _ (step _ _ _ _ (by decide))))

/-- the four bytes of a name, read -/
theorem load_four (w : World) (g : Nat) (us : List UInt8) (u0 u1 u2 u3 : UInt8) (hu : us = [u0, u1, u2, u3]) (hc : ∀ i (h : i < (tagB us).length), w.cell? ⟨g, i, none⟩ = some (.int .u8 (tagB us)[i])) :
    (Extern.Bytes.bytesOf (.slice (some ⟨g, 0, none⟩) 4 4)).run Try.prog w = .ok ⟨#[u0, u1, u2, u3]⟩ w := by
  subst hu
  have c0 := hc 0 (by simp [tagB])
  have c1 := hc 1 (by simp [tagB])
  have c2 := hc 2 (by simp [tagB])
  have c3 := hc 3 (by simp [tagB])
  simp [tagB] at c0 c1 c2 c3
  simp [Extern.Bytes.bytesOf, Extern.Bytes.loadBytes, go_sem, c0, c1, c2, c3]
  rfl

set_option maxRecDepth 20000 in
theorem compare_any (w : World) (g h : Nat) (u0 u1 u2 u3 v0 v1 v2 v3 : UInt8) (hg : ∀ i (h : i < (tagB [u0, u1, u2, u3]).length), w.cell? ⟨g, i, none⟩ = some (.int .u8 (tagB [u0, u1, u2, u3])[i])) (hh : ∀ i (h' : i < (tagB [v0, v1, v2, v3]).length), w.cell? ⟨h, i, none⟩ = some (.int .u8 (tagB [v0, v1, v2, v3])[i])) :
    Calls Try.prog 71 #[.slice (some ⟨g, 0, none⟩) 4 4, .slice (some ⟨h, 0, none⟩) 4 4] w fun e w' => e = .returned (.int .i64 (Extern.BytealgCompare.cmp ⟨#[u0, u1, u2, u3]⟩ ⟨#[v0, v1, v2, v3]⟩)) ∧ w = w' := by
  obtain ⟨C, hC⟩ : ∃ C, C = Extern.BytealgCompare.cmp ⟨#[u0, u1, u2, u3]⟩ ⟨#[v0, v1, v2, v3]⟩ := ⟨_, rfl⟩
  rw [← hC]
  have henc : (callFunc 77 #[.slice (some ⟨g, 0, none⟩) 4 4, .slice (some ⟨h, 0, none⟩) 4 4]).run Try.prog w = .ok (.value (.int .i64 C)) w := by
    rw [run_callFunc_extern (e := Extern.BytealgCompare.compare) Try.func77 (by kernel_rfl) (by kernel_rfl) (by kernel_rfl) (by kernel_rfl)]
    have e : ∀ a b : Value, Extern.BytealgCompare.compare #[a, b] = (do pure (goInt (Extern.BytealgCompare.cmp (← Extern.Bytes.bytesOf a) (← Extern.Bytes.bytesOf b)))) := fun _ _ => rfl
    rw [e]
    simp only [Sem.run_bind]
    rw [load_four w g _ u0 u1 u2 u3 rfl hg]
    simp only [Result.andThen]
    rw [load_four w h _ v0 v1 v2 v3 rfl hh]
    rw [hC]; rfl
  clear hg hh hC
  go_enter Try.func71, Try.ntmps71
  go_wp2_with fail
  go_ret
  exact ⟨rfl, rfl⟩

set_option maxHeartbeats 2000000 in
set_option maxRecDepth 20000 in
theorem before_any (w : World) (a b : List Int) (hA : AllB a) (hB : AllB b) (la : a.length = 4) (lb : b.length = 4) :
    Calls Try.prog 53 #[tagV a, tagV b] w fun e w' => e = .returned (.bool (lessL a b)) ∧ Below w.heap.size w w' := by
  obtain ⟨us, rfl⟩ := tag_u8 a hA
  obtain ⟨vs, rfl⟩ := tag_u8 b hB
  obtain ⟨u0, u1, u2, u3, rfl⟩ : ∃ u0 u1 u2 u3, us = [u0, u1, u2, u3] := by
    match us, la with
    | [a, b, c, d], _ => exact ⟨a, b, c, d, rfl⟩
  obtain ⟨v0, v1, v2, v3, rfl⟩ : ∃ u0 u1 u2 u3, vs = [u0, u1, u2, u3] := by
    match vs, lb with
    | [a, b, c, d], _ => exact ⟨a, b, c, d, rfl⟩
  have hR := cmp_less u0 u1 u2 u3 v0 v1 v2 v3
  have HCMP : Hid (∀ wx g h, (∀ i (h : i < (tagB [u0, u1, u2, u3]).length), wx.cell? ⟨g, i, none⟩ = some (.int .u8 (tagB [u0, u1, u2, u3])[i])) → (∀ i (h' : i < (tagB [v0, v1, v2, v3]).length), wx.cell? ⟨h, i, none⟩ = some (.int .u8 (tagB [v0, v1, v2, v3])[i])) →
      Calls Try.prog 71 #[.slice (some ⟨g, 0, none⟩) 4 4, .slice (some ⟨h, 0, none⟩) 4 4] wx fun e w' => e = .returned (.int .i64 (Extern.BytealgCompare.cmp ⟨#[u0, u1, u2, u3]⟩ ⟨#[v0, v1, v2, v3]⟩)) ∧ wx = w') := Lib.hid (fun wx g h hg hh => compare_any wx g h u0 u1 u2 u3 v0 v1 v2 v3 hg hh)
  generalize Extern.BytealgCompare.cmp ⟨#[u0, u1, u2, u3]⟩ ⟨#[v0, v1, v2, v3]⟩ = C at hR HCMP
  show Calls Try.prog 53 #[tagV (tagB [u0, u1, u2, u3]), tagV (tagB [v0, v1, v2, v3])] w fun e w' => e = .returned (.bool (lessL (tagB [u0, u1, u2, u3]) (tagB [v0, v1, v2, v3]))) ∧ Below w.heap.size w w'
  rw [← hR]
  obtain ⟨cu, hcu⟩ : ∃ cu, cu = ((tagB [u0, u1, u2, u3]).map fun x => Value.int .u8 x).toArray := ⟨_, rfl⟩
  obtain ⟨cv, hcv⟩ : ∃ cv, cv = ((tagB [v0, v1, v2, v3]).map fun x => Value.int .u8 x).toArray := ⟨_, rfl⟩
  unfold tagV
  rw [← hcu, ← hcv]
  obtain ⟨w1, hw1⟩ : ∃ w1, w.alloc (.cells cu 39) = w1 := ⟨_, rfl⟩
  obtain ⟨w2, hw2⟩ : ∃ w2, w1.alloc (.cells cv 39) = w2 := ⟨_, rfl⟩
  have hs1 : w1.heap.size = w.heap.size + 1 := by rw [← hw1, heap_plus]
  have HB2 : Hid (Below w.heap.size w w2) := Lib.hid (by rw [← hw2, ← hw1]; exact below_alloc _ (below_alloc _ (Below.refl _ w)))
  have HCU : Hid (∀ i (h : i < (tagB [u0, u1, u2, u3]).length), w2.cell? ⟨w.heap.size, i, none⟩ = some (.int .u8 (tagB [u0, u1, u2, u3])[i])) := Lib.hid (fun i hi => by
    rw [← hw2]
    refine cells_alloc _ ?_
    rw [← hw1, cell_of_row _ w.heap.size i _ _ _ (heap_alloc_new w _), hcu]
    simp [hi])
  have HCV : Hid (∀ i (h : i < (tagB [v0, v1, v2, v3]).length), w2.cell? ⟨w1.heap.size, i, none⟩ = some (.int .u8 (tagB [v0, v1, v2, v3])[i])) := Lib.hid (fun i hi => by
    rw [← hw2, cell_of_row _ w1.heap.size i _ _ _ (heap_alloc_new w1 _), hcv]
    simp [hi])
  have HCALL := Lib.hid (fun wx (hx : Below w2.heap.size w2 wx) => HCMP.out wx w.heap.size (w.heap.size + 1) (fun i hi => cellsAt_below (HCU.out i hi) hx) (fun i hi => by rw [← hs1]; exact cellsAt_below (HCV.out i hi) hx))
  clear hR la lb hcu hcv hA hB
  go_enter Try.func53, Try.ntmps53
  go_upto_region 1 with fail
  clear hw1 hw2
  go_region_held3 (fun w' => Below w2.heap.size w2 w')
    (first | assumption | exact (Below.refl _ w2).drew | exact Below.refl _ w2)
    (first
      | (go_at_call 71; go_split_ands; refine (HCALL.out _ (by assumption)).mono ?_; rintro e wx ⟨rfl, rfl⟩))
  all_goals (go_wp2_with fail; go_ret; exact ⟨rfl, HB2.out.trans ((by assumption : Below w2.heap.size w2 _).mono HB2.out.size)⟩)
end Go.Proofs.Ytlpnikolnohcaaa
