/-
  UcdTables: all that is known of any character is what the document says; so it is at the ends of any range of any table, and next to them.
-/
import Derived.Test.YtjpdhfolfmamcaaDoorSame
import Derived.Test.YtjpdhfolfmamcaaDoorWks
namespace Go.Proofs.YtjpdhfolfmamcaaDoor
open Go Go.RowKit

/-- a table of the document, not empty -/
def TabP (f : FuncId) : Prop := ∃ T, TabF f T ∧ 0 < T.length

theorem tp0 : TabP 33 := ⟨_, tabClasses, of_decide_eq_true (by kernel_rfl)⟩
theorem tp1 : TabP 27 := ⟨_, tabJoinings, of_decide_eq_true (by kernel_rfl)⟩
theorem tp2 : TabP 28 := ⟨_, tabBreaks, of_decide_eq_true (by kernel_rfl)⟩
theorem tp3 : TabP 29 := ⟨_, tabClusters, of_decide_eq_true (by kernel_rfl)⟩
theorem tp4 : TabP 30 := ⟨_, tabScripts, of_decide_eq_true (by kernel_rfl)⟩
theorem tp5 : TabP 31 := ⟨_, tabWides, of_decide_eq_true (by kernel_rfl)⟩
theorem tp6 : TabP 32 := ⟨_, tabSpaces, of_decide_eq_true (by kernel_rfl)⟩

def TabEnd (w : World) (e : Ending) (w' : World) : Prop := ∃ T : List (Int × Int × Int), T.length ≤ 100000 ∧ 0 < T.length ∧ e = .returned (.slice (some ⟨w.heap.size, 0, none⟩) T.length T.length) ∧ w' = w.alloc (.cells (cellsT T).toArray 25)

set_option maxRecDepth 20000 in
theorem table_any (n : Int) (hn : 0 ≤ n ∧ n ≤ 255) (w : World) : Calls Tryd.prog 9 #[.int .u8 n] w (TabEnd w) := by
  obtain ⟨z, hz⟩ : ∃ z, z = n % 7 := ⟨_, rfl⟩
  have q : n % 7 = z := hz.symm
  have hn0 := hn.1
  rcases (show z = 0 ∨ z = 1 ∨ z = 2 ∨ z = 3 ∨ z = 4 ∨ z = 5 ∨ z = 6 by omega) with rfl | rfl | rfl | rfl | rfl | rfl | rfl
  · obtain ⟨T, hT, hp⟩ := tp0
    have HT := Lib.hid hT
    have HP := Lib.hid hp
    clear hT hp hz
    go_enter Tryd.func9, Tryd.ntmps9
    go_wp2_with fail
    refine (HT.out.1 _).mono ?_
    rintro e w1 ⟨rfl, rfl⟩
    go_wp2_with fail
    go_ret
    exact ⟨T, HT.out.2, HP.out, rfl, rfl⟩
  · obtain ⟨T, hT, hp⟩ := tp1
    have HT := Lib.hid hT
    have HP := Lib.hid hp
    clear hT hp hz
    go_enter Tryd.func9, Tryd.ntmps9
    go_wp2_with fail
    refine (HT.out.1 _).mono ?_
    rintro e w1 ⟨rfl, rfl⟩
    go_wp2_with fail
    go_ret
    exact ⟨T, HT.out.2, HP.out, rfl, rfl⟩
  · obtain ⟨T, hT, hp⟩ := tp2
    have HT := Lib.hid hT
    have HP := Lib.hid hp
    clear hT hp hz
    go_enter Tryd.func9, Tryd.ntmps9
    go_wp2_with fail
    refine (HT.out.1 _).mono ?_
    rintro e w1 ⟨rfl, rfl⟩
    go_wp2_with fail
    go_ret
    exact ⟨T, HT.out.2, HP.out, rfl, rfl⟩
  · obtain ⟨T, hT, hp⟩ := tp3
    have HT := Lib.hid hT
    have HP := Lib.hid hp
    clear hT hp hz
    go_enter Tryd.func9, Tryd.ntmps9
    go_wp2_with fail
    refine (HT.out.1 _).mono ?_
    rintro e w1 ⟨rfl, rfl⟩
    go_wp2_with fail
    go_ret
    exact ⟨T, HT.out.2, HP.out, rfl, rfl⟩
  · obtain ⟨T, hT, hp⟩ := tp4
    have HT := Lib.hid hT
    have HP := Lib.hid hp
    clear hT hp hz
    go_enter Tryd.func9, Tryd.ntmps9
    go_wp2_with fail
    refine (HT.out.1 _).mono ?_
    rintro e w1 ⟨rfl, rfl⟩
    go_wp2_with fail
    go_ret
    exact ⟨T, HT.out.2, HP.out, rfl, rfl⟩
  · obtain ⟨T, hT, hp⟩ := tp5
    have HT := Lib.hid hT
    have HP := Lib.hid hp
    clear hT hp hz
    go_enter Tryd.func9, Tryd.ntmps9
    go_wp2_with fail
    refine (HT.out.1 _).mono ?_
    rintro e w1 ⟨rfl, rfl⟩
    go_wp2_with fail
    go_ret
    exact ⟨T, HT.out.2, HP.out, rfl, rfl⟩
  · obtain ⟨T, hT, hp⟩ := tp6
    have HT := Lib.hid hT
    have HP := Lib.hid hp
    clear hT hp hz
    go_enter Tryd.func9, Tryd.ntmps9
    go_wp2_with fail
    refine (HT.out.1 _).mono ?_
    rintro e w1 ⟨rfl, rfl⟩
    go_wp2_with fail
    go_ret
    exact ⟨T, HT.out.2, HP.out, rfl, rfl⟩

theorem wrap_i32_in (x : Int) : I32 (IntKind.i32.wrap x) := by
  rw [IntKind.wrap_i32]; unfold I32; omega

/-- at the head of each round -/
def TbRel (w : World) (g : Nat) (x y : Int) (k : Nat) (v : Value) (wr : World) : Prop :=
  v = .int .i32 (2 - (k : Int)) ∧ k ≤ 3 ∧ Below w.heap.size w wr ∧ w.heap.size ≤ g ∧ g < wr.heap.size ∧ wr.cell? ⟨g, 0, none⟩ = some (.int .i32 x) ∧ wr.cell? ⟨g, 1, none⟩ = some (.int .i32 y)

set_option maxHeartbeats 2000000 in
set_option maxRecDepth 20000 in
theorem tables_walk (r a b : Int) (hr : I32 r) (ha : 0 ≤ a ∧ a ≤ 255) (hb : 0 ≤ b ∧ b ≤ 255) (w : World) (hT : U8T w) : Calls Tryd.prog 3 #[.int .i32 r, .int .u8 a, .int .u8 b] w fun e w' => e = .returned (.bool true) ∧ Below w.heap.size w w' := by
  have HU := Lib.hid hT
  have HTA := Lib.hid (table_any a ha w)
  have HS := Lib.hid (same_any r hr)
  clear hT ha hr
  go_enter Tryd.func3, Tryd.ntmps3
  go_wp2_with fail
  refine (HTA.out).mono ?_
  rintro e w1 ⟨T, hl, hp, rfl, rfl⟩
  obtain ⟨n, hn⟩ : ∃ n, n = T.length := ⟨_, rfl⟩
  obtain ⟨i, hi⟩ : ∃ i : Nat, (i : Int) = b % (n : Int) := ⟨(b % (n : Int)).toNat, by have := Int.emod_nonneg b (show (n : Int) ≠ 0 by omega); omega⟩
  have hin : i < n := by have := Int.emod_lt_of_pos b (show 0 < (n : Int) by omega); omega
  have hit : i < T.length := by omega
  obtain ⟨c1, c2, c3⟩ := table_new w T 25 i hit
  obtain ⟨x, hx⟩ : ∃ x, x = T[i].1 := ⟨_, rfl⟩
  obtain ⟨y, hy⟩ : ∃ y, y = T[i].2.1 := ⟨_, rfl⟩
  obtain ⟨z, hz⟩ : ∃ z, z = T[i].2.2 := ⟨_, rfl⟩
  rw [← hx] at c1
  rw [← hy] at c2
  rw [← hz] at c3
  obtain ⟨W1, hW1⟩ : ∃ W1, W1 = w.alloc (.cells (cellsT T).toArray 25) := ⟨_, rfl⟩
  rw [← hW1] at c1 c2 c3
  rw [← hn, ← hW1]
  have hb0 := hb.1
  have hb1 := hb.2
  have q1 : IntKind.i64.wrap b = b := by rw [IntKind.wrap_i64]; omega
  have q2 : b % (n : Int) = (i : Int) := hi.symm
  have hnI : (n : Int) ≤ 100000 := by omega
  have hnp : (0 : Int) < (n : Int) := by omega
  have hiI : (i : Int) < (n : Int) := by omega
  have hi0 : (0 : Int) ≤ (i : Int) := Int.natCast_nonneg _
  have HBW : Hid (Below w.heap.size w W1) := Lib.hid (by rw [hW1]; exact (Below.refl _ w).alloc (Nat.le_refl _) _)
  clear hx hy hz hW1 hn hb hi hin hit hl hp
  go_wp2_with fail
  obtain ⟨G, hG⟩ : ∃ G, G = W1.heap.size := ⟨_, rfl⟩
  have hGw : w.heap.size ≤ W1.heap.size := HBW.out.size
  rw [← hG]
  clear q1 q2
  go_loopg [9] 3 (fun k v wr => TbRel w G x y k v wr)
  case atStart =>
    refine ⟨rfl, by omega, HBW.out.alloc hGw _, by omega, ?_, ?_, ?_⟩
    · rw [hG]; exact heap_more _ _
    · rw [hG, cell_of_row _ W1.heap.size 0 _ _ _ (heap_alloc_new W1 _)]; rfl
    · rw [hG, cell_of_row _ W1.heap.size 1 _ _ _ (heap_alloc_new W1 _)]; rfl
  case round =>
    obtain ⟨rfl, hk3, hbw, hgw, hg1, d1, d2⟩ := hrel
    have HB := Lib.hid hbw
    obtain ⟨u, hu⟩ : ∃ u, u = 2 - (gk : Int) := ⟨_, rfl⟩
    rw [← hu]
    have hgG := Lib.hid hgw
    clear hbw hgw hG
    rcases Nat.eq_zero_or_pos gk with h0 | h0
    · have b1 : (u ≤ 1) = False := by simp; omega
      clear hu
      go_wp2_with fail
      refine (HS.out _).mono ?_
      rintro e w4 ⟨rfl, hb4⟩
      have HB4 := Lib.hid (HB.out.trans (hb4.mono HB.out.size))
      clear hb4
      go_wp2_with fail
      refine (works_any _ (u8_below HU.out HB4.out)).mono ?_
      rintro e w5 ⟨rfl, hb5⟩
      have HB5 := Lib.hid (HB4.out.trans (hb5.mono HB4.out.size))
      clear hb5
      go_wp2_with fail
      go_ret
      exact ⟨rfl, HB5.out⟩
    · have b1 : (u ≤ 1) = True := by simp; omega
      have HU2 := Lib.hid hu
      obtain ⟨p1, hp1⟩ : ∃ p, p = IntKind.i32.wrap (x + u) := ⟨_, rfl⟩
      obtain ⟨p2, hp2⟩ : ∃ p, p = IntKind.i32.wrap (y + u) := ⟨_, rfl⟩
      have S1 := Lib.hid (same_any p1 (by rw [hp1]; exact wrap_i32_in _))
      have S2 := Lib.hid (same_any p2 (by rw [hp2]; exact wrap_i32_in _))
      have q3 : IntKind.i32.wrap (x + u) = p1 := hp1.symm
      have q4 : IntKind.i32.wrap (y + u) = p2 := hp2.symm
      have q5 : IntKind.i32.wrap (u + 1) = u + 1 := by rw [IntKind.wrap_i32]; omega
      clear hu hp1 hp2
      go_wp2_with fail
      refine (S1.out _).mono ?_
      rintro e w4 ⟨rfl, hb4⟩
      have HB4 := Lib.hid (HB.out.trans (hb4.mono HB.out.size))
      have d1' : w4.cell? ⟨G, 0, none⟩ = some (.int .i32 x) := by rw [hb4.cell (by exact hg1)]; exact d1
      have d2' : w4.cell? ⟨G, 1, none⟩ = some (.int .i32 y) := by rw [hb4.cell (by exact hg1)]; exact d2
      have hg4 : G < w4.heap.size := Nat.lt_of_lt_of_le hg1 hb4.size
      clear hb4 d1 d2
      go_wp2_with fail
      refine (S2.out _).mono ?_
      rintro e w5 ⟨rfl, hb5⟩
      have HB5 := Lib.hid (HB4.out.trans (hb5.mono HB4.out.size))
      have d1 : w5.cell? ⟨G, 0, none⟩ = some (.int .i32 x) := by rw [hb5.cell (by exact hg4)]; exact d1'
      have d2 : w5.cell? ⟨G, 1, none⟩ = some (.int .i32 y) := by rw [hb5.cell (by exact hg4)]; exact d2'
      have hg5 : G < w5.heap.size := Nat.lt_of_lt_of_le hg4 hb5.size
      clear hb5 d1' d2'
      go_wp2_with fail
      go_roundg (gk - 1)
      case measure => omega
      case rel => exact ⟨by have := HU2.out; exact congrArg _ (by omega), by omega, HB5.out, hgG.out, hg5, d1, d2⟩
end Go.Proofs.YtjpdhfolfmamcaaDoor
