/-
  Two rows that read as the same numbers are the same.
-/
import Derived.Test.YtjlencmoobanoaaBnd
import Derived.Deep.RegionHeld3
namespace Go.Proofs.Ytjlencmoobanoaa
open Go Go.RowKit

def SameRel (w : World) (n k : Nat) (vi : Value) (wr : World) : Prop :=
  (∃ i, i + k = n ∧ vi = .int .i64 ((i : Nat) : Int)) ∧ wr.heap = w.heap ∧ Below w.heap.size w wr

theorem cell_heap {w w' : World} (h : w'.heap = w.heap) (p : Addr) : w'.cell? p = w.cell? p := World.cell?_of_block (w := w) (by rw [h])

set_option maxHeartbeats 2000000 in
set_option maxRecDepth 20000 in
theorem sameI_any (l : List Nat) (a b : Value) (w : World) (ha : IntsR w a l) (hb : IntsR w b l) (hl : l.length ≤ 1000000) :
    Calls Try.prog 11 #[a, b] w fun e w' => e = .returned (.bool true) ∧ Below w.heap.size w w' := by
  obtain ⟨A, ca, rfl, ha1, ha2, hxa⟩ := ha
  obtain ⟨B, cb, rfl, hb1, hb2, hxb⟩ := hb
  obtain ⟨n, hn⟩ : ∃ n, n = l.length := ⟨_, rfl⟩
  have HN := Lib.hid hn
  have HA := Lib.hid hxa
  have HB := Lib.hid hxb
  rw [← hn] at ha1 hb1 hl ⊢
  have hnI : (n : Int) ≤ 1000000 := by omega
  have b0 : ((n : Int) != (n : Int)) = false := by simp
  clear hxa hxb hn
  go_enter Try.func11, Try.ntmps11
  go_wp2_with fail
  go_loopg [5] n (fun k vi wr => SameRel w n k vi wr)
  case atStart => exact ⟨⟨0, by omega, rfl⟩, rfl, Below.refl _ _⟩
  case round =>
    obtain ⟨⟨i, hik, rfl⟩, hh, hbw⟩ := hrel
    have HH := Lib.hid hh
    have HBW := Lib.hid hbw
    clear hh hbw
    rcases Nat.eq_zero_or_pos gk with h0 | h0
    · obtain rfl : i = n := by omega
      go_wp2_with fail
      go_ret
      exact ⟨rfl, HBW.out⟩
    · have hin : i < n := by omega
      have hil : i < l.length := by have := HN.out; omega
      have hne : l ≠ [] := by rintro rfl; simp at hil
      obtain ⟨g1, rfl, hg1, hc1⟩ := HA.out hne
      obtain ⟨g2, rfl, hg2, hc2⟩ := HB.out hne
      have c1 : wr.cell? ⟨g1, i, none⟩ = some (.int .i64 ((l[i] : Nat) : Int)) := by rw [cell_heap HH.out]; exact hc1 i hil
      have c2 : wr.cell? ⟨g2, i, none⟩ = some (.int .i64 ((l[i] : Nat) : Int)) := by rw [cell_heap HH.out]; exact hc2 i hil
      obtain ⟨x, hx⟩ : ∃ x, x = ((l[i] : Nat) : Int) := ⟨_, rfl⟩
      rw [← hx] at c1 c2
      have hiI : (i : Int) < (n : Int) := by omega
      have hi0 : (0 : Int) ≤ (i : Int) := Int.natCast_nonneg _
      have bx : (x != x) = false := by simp
      clear hx hc1 hc2
      go_wp2_with fail
      go_region_held3 (fun w' => w'.cell? ⟨g1, i, none⟩ = some (.int .i64 x) ∧ w'.cell? ⟨g2, i, none⟩ = some (.int .i64 x)) (first | assumption | (go_split_ands; exact ⟨c1, c2⟩) | (go_split_ands; exact ⟨by assumption, by assumption⟩)) (fail)
      all_goals go_wp2_with fail
      go_roundg (gk - 1)
      case measure => omega
      case rel => exact ⟨⟨i + 1, by omega, by first | rfl | exact congrArg _ (by omega)⟩, HH.out, HBW.out.drew⟩
end Go.Proofs.Ytjlencmoobanoaa
