/-
  lookedThrough, lookedBack and Parted.
-/
import Derived.Test.YtjlencmoobanoaaPart
import Derived.Test.YtjlencmoobanoaaBnd
namespace Go.Proofs.Ytjlencmoobanoaa
open Go Go.RowKit

set_option maxRecDepth 20000 in
theorem setOf_nil (w : World) : Calls Try.prog 29 #[.slice none 0 0] w fun e w' => e = .returned (.int .u16 0) ∧ w = w' := by
  go_enter Try.func29, Try.ntmps29
  go_wp2_with fail
  go_loopg [3, 8] 0 (fun k vs vi wr => w = wr ∧ vs = .int .u16 0 ∧ vi = .int .i64 0)
  case atStart => exact ⟨rfl, rfl, rfl⟩
  case round =>
    obtain ⟨rfl, rfl, rfl⟩ := hrel
    go_wp2_with fail
    go_ret
    exact ⟨rfl, rfl⟩

set_option maxRecDepth 20000 in
theorem through_any (b : Nat) (hb : b < 14) (w : World) : Calls Try.prog 42 #[.int .u8 (b : Int)] w fun e w' => e = .returned (.int .u16 ((thr b : Nat) : Int)) ∧ Below w.heap.size w w' := by
  rcases (show b = 13 ∨ b = 6 ∨ (b ≠ 13 ∧ b ≠ 6) by omega) with rfl | rfl | ⟨h1, h2⟩
  · go_enter Try.func42, Try.ntmps42
    go_wp2_with fail
    refine (setOf_any [4, 5] (by decide) (by decide) w.heap.size 2 2 rfl _ (fun j hj => cells_new w [4, 5] _ j hj)).mono ?_
    rintro e w1 ⟨rfl, rfl⟩
    go_wp2_with fail
    go_ret
    exact ⟨rfl, (Below.refl _ w).alloc (Nat.le_refl _) _⟩
  · go_enter Try.func42, Try.ntmps42
    go_wp2_with fail
    refine (setOf_any [6] (by decide) (by decide) w.heap.size 1 1 rfl _ (fun j hj => cells_new w [6] _ j hj)).mono ?_
    rintro e w1 ⟨rfl, rfl⟩
    go_wp2_with fail
    go_ret
    exact ⟨rfl, (Below.refl _ w).alloc (Nat.le_refl _) _⟩
  · have b1 : ((b : Int) == 13) = false := by simp; omega
    have b2 : ((b : Int) == 6) = false := by simp; omega
    have HE : Hid (thr b = 0) := Lib.hid (by simp [thr, h1, h2])
    generalize thr b = z at HE ⊢
    clear h1 h2 hb
    go_enter Try.func42, Try.ntmps42
    go_wp2_with fail
    refine (setOf_nil w).mono ?_
    rintro e w1 ⟨rfl, rfl⟩
    go_wp2_with fail
    go_ret
    exact ⟨by rw [HE.out]; rfl, Below.refl _ _⟩

def BackRel (w : World) (C : List Nat) (m n k : Nat) (vi : Value) (wr : World) : Prop :=
  k ≤ n ∧ vi = .int .i64 (k : Int) ∧ Below w.heap.size w wr ∧ backTo C m n = backTo C m k

set_option maxHeartbeats 4000000 in
set_option maxRecDepth 20000 in
theorem lookedBack_any (T : List (Int × Int × Int)) (hT : TabC T) (l : List Int) (A : Option Addr) (g off cap N : Nat) (hN : N = l.length) (hA : A = some ⟨g, off, none⟩) (w : World) (hcell : ∀ (j : Nat) (h : j < l.length), w.cell? ⟨g, off + j, none⟩ = some (.int .i32 l[j])) (i : Nat) (hi : i < N) (hi1 : 1 ≤ i) (hN2 : N ≤ 1000000) :
    Calls Try.prog 19 #[.slice A N cap, .int .i64 (i : Int)] w fun e w' => e = .returned (.int .i64 ((backTo (l.map (clsN T)) (thr ((l.map (clsN T)).getD i 0)) (i - 1) : Nat) : Int)) ∧ Below w.heap.size w w' := by
  subst hA
  obtain ⟨n, hn⟩ : ∃ n, n = i - 1 := ⟨_, rfl⟩
  obtain ⟨C, hC⟩ : ∃ C, C = l.map (clsN T) := ⟨_, rfl⟩
  have hil : i < l.length := by omega
  obtain ⟨b, hb⟩ : ∃ b, b = clsN T l[i] := ⟨_, rfl⟩
  have hbC : (l.map (clsN T)).getD i 0 = b := by rw [hb]; simp [hil]
  have hb14 : b < 14 := by rw [hb]; exact cls_lt hT.ok _
  obtain ⟨m, hm⟩ : ∃ m, m = thr b := ⟨_, rfl⟩
  have hm16 : m < 65536 := by rw [hm]; unfold thr; split <;> (try split) <;> omega
  obtain ⟨R, hR⟩ : ∃ R, R = backTo C m n := ⟨_, rfl⟩
  rw [hbC, ← hC, ← hn, ← hm, ← hR]
  have c1 := hcell i hil
  obtain ⟨x, hx⟩ : ∃ x, x = l[i] := ⟨_, rfl⟩
  rw [← hx] at c1 hb
  have HX := Lib.hid (hT.code x)
  rw [← hb] at HX
  have HTH := Lib.hid (fun w => through_any b hb14 w)
  simp only [← hm] at HTH
  have HC := Lib.hid hC
  have HR := Lib.hid hR
  have HN := Lib.hid hN
  have HCE := Lib.hid hcell
  have HT := Lib.hid hT
  have q0 : IntKind.i64.wrap ((i : Int) - 1) = (n : Int) := by rw [IntKind.wrap_i64]; omega
  have hiI : (i : Int) < (N : Int) := by omega
  have hi0 : (0 : Int) ≤ (i : Int) := Int.natCast_nonneg _
  have hnN : n < N := by omega
  clear hx hb hbC hC hR hN hcell hT hn hil hm hb14
  go_enter Try.func19, Try.ntmps19
  go_wp2_with fail
  refine (HX.out _).mono ?_
  rintro e w1 ⟨rfl, rfl⟩
  go_wp2_with fail
  refine (HTH.out _).mono ?_
  rintro e w1 ⟨rfl, hb1⟩
  have HB1 := Lib.hid hb1
  clear hb1
  go_wp2_with fail
  clear q0
  go_loopg [5] n (fun k vi wr => BackRel w C m n k vi wr)
  case atStart => exact ⟨Nat.le_refl _, rfl, HB1.out, rfl⟩
  case round =>
    obtain ⟨hkn, rfl, hb, hf⟩ := hrel
    have HF := Lib.hid hf
    have HB := Lib.hid hb
    clear hf hb
    rcases Nat.eq_zero_or_pos gk with h0 | h0
    · obtain rfl := h0
      have HE : Hid (R = 0) := Lib.hid (by rw [HR.out, HF.out]; rfl)
      go_wp2_with fail
      go_ret
      exact ⟨by rw [HE.out]; rfl, HB.out⟩
    · obtain ⟨k, rfl⟩ : ∃ k, gk = k + 1 := ⟨gk - 1, by omega⟩
      have hkl : k + 1 < l.length := by have := HN.out; omega
      have c2' := HCE.out (k + 1) hkl
      have c2 : wr.cell? ⟨g, off + (k + 1), none⟩ = some (.int .i32 l[k + 1]) := by rw [HB.out.cell (World.block_lt_of_cell? w _ c2')]; exact c2'
      obtain ⟨y, hy⟩ : ∃ y, y = l[k + 1] := ⟨_, rfl⟩
      rw [← hy] at c2
      have HY := Lib.hid (HT.out.code y)
      have hc14 := cls_lt HT.out.ok y
      obtain ⟨c, hc⟩ : ∃ c, c = clsN T y := ⟨_, rfl⟩
      rw [← hc] at HY hc14
      have HH := Lib.hid (has_any m c hm16 (by omega))
      have hd : backTo C m (k + 1) = if m.testBit c then backTo C m k else k + 1 := by
        have e : C.getD (k + 1) 0 = c := by rw [HC.out, hc, hy]; simp [hkl]
        rw [backTo, e]
      have HD := Lib.hid hd
      obtain ⟨q, hq⟩ : ∃ q, q = k + 1 := ⟨_, rfl⟩
      rw [← hq] at c2 ⊢
      obtain ⟨z, hz⟩ : ∃ z, z = m.testBit c := ⟨_, rfl⟩
      rw [← hz] at HH
      have HZ := Lib.hid hz
      have b1 : ((0 : Int) < (q : Int)) = True := by simp; omega
      have hqI : (q : Int) < (N : Int) := by omega
      have hq0 : (0 : Int) ≤ (q : Int) := Int.natCast_nonneg _
      have q2 : IntKind.i64.wrap ((q : Int) - 1) = (k : Int) := by rw [IntKind.wrap_i64]; omega
      have HQ := Lib.hid hq
      have hkn2 : k ≤ n := by omega
      have hkq : k < q := by omega
      clear c2' hy hc hd hz hq hkl hkn
      cases z with
      | true =>
        have HNX : Hid (backTo C m n = backTo C m k) := Lib.hid (by rw [HF.out, HD.out, ← HZ.out]; rfl)
        go_wp2_with fail
        refine (HY.out _).mono ?_
        rintro e w2 ⟨rfl, rfl⟩
        go_wp2_with fail
        refine (HH.out _).mono ?_
        rintro e w2 ⟨rfl, rfl⟩
        go_wp2_with fail
        go_roundg k
        case measure => omega
        case rel => exact ⟨hkn2, rfl, HB.out, HNX.out⟩
      | false =>
        have HE : Hid (R = q) := Lib.hid (by rw [HR.out, HF.out, HD.out, ← HZ.out, HQ.out]; rfl)
        go_wp2_with fail
        refine (HY.out _).mono ?_
        rintro e w2 ⟨rfl, rfl⟩
        go_wp2_with fail
        refine (HH.out _).mono ?_
        rintro e w2 ⟨rfl, rfl⟩
        go_wp2_with fail
        go_ret
        exact ⟨by rw [HE.out]; rfl, HB.out⟩
end Go.Proofs.Ytjlencmoobanoaa
