/-
  ucd.sound: how many characters stand ahead of the first part that is none, and how many bytes they have.
-/
import Derived.Test.YtjpdhfolfmamcaaDoorRefDec
import Derived.Test.YtjpdhfolfmamcaaDoorUtf8
namespace Go.Proofs.YtjpdhfolfmamcaaDoor
open Go Go.RowKit

abbrev U8T (w : World) : Prop := Lib.Utf8Tabs 1 2 w

/-- at the head of each round of sound -/
def SoundRel (w : World) (s : ByteArray) (N k : Nat) (vc vi : Value) (wr : World) : Prop :=
  ∃ i acc, i + k = N ∧ vi = .int .i64 ((i : Nat) : Int) ∧ vc = .int .i64 ((acc.length : Nat) : Int) ∧ acc.length ≤ i ∧ fin s i acc = fin s 0 [] ∧ Below w.heap.size w wr

theorem u8_below {w w' : World} (h : U8T w) (hb : Below w.heap.size w w') : U8T w' := by
  refine ⟨fun c hc => ?_, fun i hi => ⟨?_, ?_⟩⟩
  · rw [hb.cell (World.block_lt_of_cell? w _ (h.1 c hc))]; exact h.1 c hc
  · rw [hb.cell (World.block_lt_of_cell? w _ (h.2 i hi).1)]; exact (h.2 i hi).1
  · rw [hb.cell (World.block_lt_of_cell? w _ (h.2 i hi).2)]; exact (h.2 i hi).2

theorem decodeGo_behind (s : ByteArray) (i : Nat) (h : i < s.size) : Lib.decodeGo (behindB s i) = Utf8.decode s i := by
  unfold Lib.decodeGo
  rw [if_neg (by rw [behind_size]; omega), behind_decode]

set_option maxHeartbeats 4000000 in
set_option maxRecDepth 20000 in
theorem sound_any (s : ByteArray) (v : Value) (w : World) (hsz : s.size ≤ 1000000) (hv : BytesR w v s) (hT : U8T w) :
    Calls Tryd.prog 44 #[v] w fun e w' => e = .returned (.tuple #[.int .i64 (((fin s 0 []).1.length : Nat) : Int), .int .i64 (((fin s 0 []).2 : Nat) : Int)]) ∧ Below w.heap.size w w' := by
  obtain ⟨A, cap, rfl, hcap, hcap2, hx⟩ := hv
  obtain ⟨N, hN⟩ : ∃ N, N = s.size := ⟨_, rfl⟩
  have HX := Lib.hid hx
  have HN := Lib.hid hN
  have HT := Lib.hid hT
  rw [← hN] at hcap hsz ⊢
  have hNI : (N : Int) ≤ 1000000 := by omega
  have hcI : (N : Int) ≤ (cap : Int) := by omega
  obtain ⟨T, hTT⟩ : ∃ T, T = fin s 0 [] := ⟨_, rfl⟩
  have HTT := Lib.hid hTT
  rw [← hTT]
  clear hx hN hcap2 hT hTT hcap
  go_enter Tryd.func44, Tryd.ntmps44
  go_wp2_with fail
  go_loopg [2, 3, 4, 5] N (fun k vc vi v4 v5 wr => SoundRel w s N k vc vi wr)
  case atStart => exact ⟨0, [], by omega, rfl, rfl, by simp, rfl, Below.refl _ _⟩
  case round =>
    obtain ⟨i, acc, hik, rfl, rfl, hal, hf, hb⟩ := hrel
    obtain ⟨L, hL⟩ : ∃ L, L = acc.length := ⟨_, rfl⟩
    have HL := Lib.hid hL
    have HF := Lib.hid hf
    have HB := Lib.hid hb
    rw [← hL] at hal ⊢
    clear hf hb hL
    have b2 : ((L : Int) ≤ 16777216) = True := by simp; omega
    rcases Nat.eq_zero_or_pos gk with h0 | h0
    · obtain rfl := h0
      obtain rfl : i = N := by omega
      have HE : Hid (T = (acc, i)) := Lib.hid (by rw [HTT.out, ← HF.out, fin_end s i acc (by have := HN.out; omega)])
      go_wp2_with fail
      go_ret2
      refine ⟨?_, HB.out⟩
      rw [HE.out]
      show _ = Ending.returned (.tuple #[.int .i64 ((acc.length : Nat) : Int), .int .i64 ((i : Nat) : Int)])
      rw [← HL.out]
      rfl
    · have hiN : i < N := by omega
      have his : i < s.size := by have := HN.out; omega
      obtain ⟨g, off, rfl, hg, hat⟩ := HX.out (by omega)
      have hiI : (i : Int) < (N : Int) := by omega
      have hi0I : (0 : Int) ≤ (i : Int) := Int.natCast_nonneg _
      have hat2 : BytesAt wr g (off + i) (behindB s i) := BytesAt.behind ⟨fun j hj => by rw [HB.out.cell (by exact hg)]; exact hat.cell j hj⟩ i
      have hcall := Tryd.utf8_DecodeRune (behindB s i) g (off + i) (cap - i) wr (u8_below HT.out HB.out) (fun j hj => hat2.cell j hj)
      rw [behind_size, ← HN.out, decodeGo_behind s i his] at hcall
      obtain ⟨r, n, hrn⟩ : ∃ r n, Utf8.decode s i = (r, n) := ⟨_, _, rfl⟩
      rw [hrn] at hcall
      have HCALL := Lib.hid hcall
      have hn1 : 1 ≤ n := by have := dec_width s i; rw [hrn] at this; exact this
      have hn2 : i + n ≤ N := by have := dec_fits s i his; rw [hrn] at this; have := HN.out; omega
      have hrl : r ≤ 1114111 := by
        have := decN_scalar (s.size - i) (byN s i) (byN s (i + 1)) (byN s (i + 2)) (byN s (i + 3))
        rw [← decode_by, hrn] at this
        exact this.1
      have hnI : (1 : Int) ≤ (n : Int) := by omega
      have hnJ : (i : Int) + (n : Int) ≤ (N : Int) := by omega
      have hrI : (r : Int) ≤ 1114111 := by omega
      have hLI : (L : Int) ≤ 1000000 := by omega
      have hL0 : (0 : Int) ≤ (L : Int) := Int.natCast_nonneg _
      have q5 : IntKind.i64.wrap ((i : Int) + (n : Int)) = (i : Int) + (n : Int) := by rw [IntKind.wrap_i64]; omega
      clear hcall hat hat2
      by_cases hbad : noChar s i
      · have hrn2 : (r, n) = (65533, 1) := by rw [← hrn]; exact hbad
        injection hrn2 with e1 e2
        subst e1 e2
        have HE : Hid (T = (acc, i)) := Lib.hid (by rw [HTT.out, ← HF.out, fin_bad s i acc his hbad])
        clear hrn hbad
        go_wp2_with fail
        refine (HCALL.out).mono ?_
        rintro e w2 ⟨rfl, hb2⟩
        have HB2 := Lib.hid (HB.out.trans (hb2.mono HB.out.size))
        clear hb2
        go_wp2_with fail
        go_ret2
        refine ⟨?_, HB2.out⟩
        rw [HE.out]
        show _ = Ending.returned (.tuple #[.int .i64 ((acc.length : Nat) : Int), .int .i64 ((i : Nat) : Int)])
        rw [← HL.out]
        rfl
      · have HNX : Hid (fin s (i + n) (acc ++ [r]) = fin s 0 []) := Lib.hid (by
          have := fin_next s i acc his hbad
          rw [hrn] at this
          rw [← this]; exact HF.out)
        have hne : r ≠ 65533 ∨ n ≠ 1 := by
          by_cases h1 : r = 65533
          · right; rintro rfl; exact hbad (by unfold noChar; rw [hrn, h1])
          · exact .inl h1
        clear hrn hbad
        rcases (show r ≠ 65533 ∨ (r = 65533 ∧ n ≠ 1) by omega) with hr | ⟨rfl, hn⟩
        · have b3 : ((r : Int) = 65533) = False := by simp; omega
          clear hr hne
          go_wp2_with fail
          refine (HCALL.out).mono ?_
          rintro e w2 ⟨rfl, hb2⟩
          have HB2 := Lib.hid (HB.out.trans (hb2.mono HB.out.size))
          clear hb2
          go_wp2_with fail
          go_roundg (gk - n)
          case measure => omega
          case rel =>
            exact ⟨i + n, acc ++ [r], by omega, by first | rfl | exact congrArg _ (by omega), by have := HL.out; first | (simp [← this]; done) | exact congrArg _ (by simp; omega), by have := HL.out; simp; omega, HNX.out, HB2.out⟩
        · have b3 : ((n : Int) = 1) = False := by simp; omega
          have b4 : ((n : Int) == 1) = false := by simp; omega
          have b5 : ¬ (n : Int) = 1 := by omega
          clear hn hne
          go_wp2_with fail
          refine (HCALL.out).mono ?_
          rintro e w2 ⟨rfl, hb2⟩
          have HB2 := Lib.hid (HB.out.trans (hb2.mono HB.out.size))
          clear hb2
          go_wp2_with fail
          go_roundg (gk - n)
          case measure => omega
          case rel =>
            exact ⟨i + n, acc ++ [65533], by omega, by first | rfl | exact congrArg _ (by omega), by have := HL.out; first | (simp [← this]; done) | exact congrArg _ (by simp; omega), by have := HL.out; simp; omega, HNX.out, HB2.out⟩
end Go.Proofs.YtjpdhfolfmamcaaDoor
