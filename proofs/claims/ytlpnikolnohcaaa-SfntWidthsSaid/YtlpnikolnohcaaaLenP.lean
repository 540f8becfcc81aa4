/-
  How many bits a small number has; a font's first bytes.
-/
import Derived.Test.YtlpnikolnohcaaaNumP
import Derived.Test.YtlpnikolnohcaaaHdR
import Derived.Handy
namespace Go.Proofs.Ytlpnikolnohcaaa
open Go Go.RowKit

/-- how many bits the numbers up to 64 have -/
def bitsTab : List UInt8 := [0, 1, 2, 2, 3, 3, 3, 3, 4, 4, 4, 4, 4, 4, 4, 4, 5, 5, 5, 5, 5, 5, 5, 5, 5, 5, 5, 5, 5, 5, 5, 5, 6, 6, 6, 6, 6, 6, 6, 6, 6, 6, 6, 6, 6, 6, 6, 6, 6, 6, 6, 6, 6, 6, 6, 6, 6, 6, 6, 6, 6, 6, 6, 6, 7]

theorem tab_len (T : ByteArray) (n : Nat) (h1 : 1 ≤ n) (h2 : n ≤ 64) (i : Nat) (hi : i = n) (h : i < T.size) (hT : T.data.toList.take 65 = bitsTab) : wrap64 (wrap64 (((T[i]'h).toNat : Nat) : Int)) = ((Nat.log2 n + 1 : Nat) : Int) := by
  subst hi
  have h65 : i < (T.data.toList.take 65).length := by rw [hT]; show i < 65; omega
  have e : T[i]'h = (T.data.toList.take 65)[i]'h65 := by
    rw [List.getElem_take]; rfl
  have key : ∀ k : Fin 65, 1 ≤ k.val → (bitsTab.getD k.val 0).toNat = Nat.log2 k.val + 1 := by decide
  have hk := key ⟨i, by omega⟩ h1
  have e2 : (T.data.toList.take 65)[i]'h65 = bitsTab.getD i 0 := by
    rw [List.getD_eq_getElem?_getD, ← hT, List.getElem?_eq_getElem h65]; rfl
  rw [e, e2]
  simp only [] at hk
  rw [hk]
  have hb : Nat.log2 i < 7 := (Nat.log2_lt (by omega)).2 (by omega)
  unfold wrap64
  omega

set_option maxHeartbeats 4000000 in
set_option maxRecDepth 20000 in
theorem len64_any (w : World) (n : Nat) (h1 : 1 ≤ n) (h2 : n ≤ 64) : Calls Try.prog 76 #[.int .u64 (n : Int)] w fun e w' => e = .returned (.int .i64 ((Nat.log2 n + 1 : Nat) : Int)) ∧ w = w' := by
  have b1 : ((4294967296 : Int) ≤ (n : Int)) = False := eq_false (by omega)
  have b2 : ((65536 : Int) ≤ (n : Int)) = False := eq_false (by omega)
  have b3 : ((256 : Int) ≤ (n : Int)) = False := eq_false (by omega)
  have q1 : IntKind.u8.wrap (n : Int) = (n : Int) := by rw [wrap_u8]; omega
  have i0 : (0 : Int) ≤ (n : Int) := Int.natCast_nonneg _
  have iN : (n : Int) < 256 := by omega
  have iM : n < 256 := by omega
  go_enter Try.func76, Try.ntmps76
  go_wp2_with fail
  go_ret
  refine ⟨?_, rfl⟩
  refine congrArg (fun x => Ending.returned (.int .i64 x)) ?_
  refine tab_len _ n h1 h2 _ ?_ _ ?_
  · simp
  · kernel_rfl

set_option maxRecDepth 20000 in
theorem len_any (w : World) (n : Nat) (h1 : 1 ≤ n) (h2 : n ≤ 64) : Calls Try.prog 70 #[.int .u64 (n : Int)] w fun e w' => e = .returned (.int .i64 ((Nat.log2 n + 1 : Nat) : Int)) ∧ w = w' := by
  have H := Lib.hid (len64_any w n h1 h2)
  generalize Nat.log2 n + 1 = q at H ⊢
  clear h1 h2
  go_enter Try.func70, Try.ntmps70
  go_wp2_with fail
  refine (H.out).mono ?_
  rintro e w1 ⟨rfl, rfl⟩
  go_wp2_with fail
  go_ret
  exact ⟨rfl, rfl⟩

set_option maxRecDepth 20000 in
theorem countable_any (w : World) (n : Int) : Calls Try.prog 48 #[.int .i64 n] w fun e w' => e = .returned (.bool (decide (1 ≤ n) && decide (n ≤ 64))) ∧ w = w' := by
  by_cases h1 : 1 ≤ n
  · have b1 : ((1 : Int) ≤ n) = True := eq_true h1
    by_cases h2 : n ≤ 64
    · have b2 : (n ≤ 64) = True := eq_true h2
      have HR : Hid ((decide (1 ≤ n) && decide (n ≤ 64)) = true) := Lib.hid (by simp [h1, h2])
      generalize (decide (1 ≤ n) && decide (n ≤ 64)) = R at HR ⊢
      clear h1 h2
      go_enter Try.func48, Try.ntmps48
      go_wp2_with fail
      go_ret
      exact ⟨by rw [HR.out]; rfl, rfl⟩
    · have b2 : (n ≤ 64) = False := eq_false h2
      have HR : Hid ((decide (1 ≤ n) && decide (n ≤ 64)) = false) := Lib.hid (by simp [h2])
      generalize (decide (1 ≤ n) && decide (n ≤ 64)) = R at HR ⊢
      clear h1 h2
      go_enter Try.func48, Try.ntmps48
      go_wp2_with fail
      go_ret
      exact ⟨by rw [HR.out]; rfl, rfl⟩
  · have b1 : ((1 : Int) ≤ n) = False := eq_false h1
    have HR : Hid ((decide (1 ≤ n) && decide (n ≤ 64)) = false) := Lib.hid (by simp [h1])
    generalize (decide (1 ≤ n) && decide (n ≤ 64)) = R at HR ⊢
    clear h1
    go_enter Try.func48, Try.ntmps48
    go_wp2_with fail
    go_ret
    exact ⟨by rw [HR.out]; rfl, rfl⟩

set_option maxRecDepth 20000 in
theorem begin_any (w : World) (n : Nat) (hn : n ≤ 1000000) : Calls Try.prog 49 #[.int .i64 (n : Int)] w fun e w' => e = .returned (.int .i64 ((12 + 16 * n : Nat) : Int)) ∧ w = w' := by
  obtain ⟨m, hm⟩ : ∃ m, m = n * 16 := ⟨_, rfl⟩
  obtain ⟨q, hq⟩ : ∃ q, q = 12 + 16 * n := ⟨_, rfl⟩
  rw [← hq]
  have q1 : IntKind.i64.wrap ((n : Int) * 16) = (m : Int) := by rw [IntKind.wrap_i64]; omega
  have q2 : IntKind.i64.wrap (12 + (m : Int)) = (q : Int) := by rw [IntKind.wrap_i64]; omega
  clear hm hq hn
  go_enter Try.func49, Try.ntmps49
  go_wp2_with fail
  go_ret
  exact ⟨rfl, rfl⟩

set_option maxRecDepth 20000 in
theorem filled_any (w : World) (n : Nat) (hn : n ≤ 1000000000) : Calls Try.prog 63 #[.int .i64 (n : Int)] w fun e w' => e = .returned (.int .i64 (((n + 3) / 4 * 4 : Nat) : Int)) ∧ w = w' := by
  obtain ⟨m, hm⟩ : ∃ m, m = n + 4 := ⟨_, rfl⟩
  obtain ⟨k, hk⟩ : ∃ k, k = n + 3 := ⟨_, rfl⟩
  obtain ⟨d, hd⟩ : ∃ d, d = k / 4 := ⟨_, rfl⟩
  obtain ⟨q, hq⟩ : ∃ q, q = d * 4 := ⟨_, rfl⟩
  rw [← hk, ← hd, ← hq]
  have q1 : IntKind.i64.wrap ((n : Int) + 4) = (m : Int) := by rw [IntKind.wrap_i64]; omega
  have q2 : IntKind.i64.wrap ((m : Int) - 1) = (k : Int) := by rw [IntKind.wrap_i64]; omega
  have q3 : IntKind.i64.wrap ((k : Int) / 4) = (d : Int) := by rw [IntKind.wrap_i64]; omega
  have q4 : IntKind.i64.wrap ((d : Int) * 4) = (q : Int) := by rw [IntKind.wrap_i64]; omega
  clear hm hk hd hq hn
  go_enter Try.func63, Try.ntmps63
  go_wp2_with fail
  go_ret
  exact ⟨rfl, rfl⟩

set_option maxHeartbeats 2000000 in
set_option maxRecDepth 20000 in
theorem opening_any (w : World) (n : Nat) (h1 : 1 ≤ n) (h2 : n ≤ 64) : Calls Try.prog 51 #[.int .i64 (n : Int)] w fun e w' => Below w.heap.size w w' ∧ ∃ r B, e = .returned r ∧ w.heap.size ≤ B ∧ OwnB B w' r (headL n) := by
  have HLN := Lib.hid (fun w => len_any w n h1 h2)
  have HPT := fun wx v hv => numbers_any wx v [65536, (n : Int), ((16 * 2 ^ Nat.log2 n : Nat) : Int), ((Nat.log2 n : Nat) : Int), ((16 * n - 16 * 2 ^ Nat.log2 n : Nat) : Int)] ⟨#[73, 72, 72, 72, 72]⟩ hv (by simp) (by decide)
  have hpn : 2 ^ Nat.log2 n ≤ n := (Nat.le_log2 (by omega)).1 (Nat.le_refl _)
  have he6 : Nat.log2 n ≤ 6 := by
    have : n.log2 < 7 := (Nat.log2_lt (by omega)).2 (by omega)
    omega
  unfold headL
  obtain ⟨e, he⟩ : ∃ e, e = Nat.log2 n := ⟨_, rfl⟩
  rw [← he] at HLN hpn HPT he6 ⊢
  obtain ⟨p, hp⟩ : ∃ p, p = 2 ^ e := ⟨_, rfl⟩
  rw [← hp] at hpn HPT ⊢
  obtain ⟨p16, hp16⟩ : ∃ x, x = 16 * p := ⟨_, rfl⟩
  obtain ⟨n16, hn16⟩ : ∃ x, x = 16 * n := ⟨_, rfl⟩
  rw [← hp16, ← hn16] at HPT ⊢
  obtain ⟨d, hd⟩ : ∃ d, d = n16 - p16 := ⟨_, rfl⟩
  rw [← hd] at HPT ⊢
  obtain ⟨e1, he1⟩ : ∃ e1, e1 = e + 1 := ⟨_, rfl⟩
  rw [← he1] at HLN
  have q0 : IntKind.u64.wrap (n : Int) = (n : Int) := by rw [IntKind.wrap_u64]; omega
  have q1 : IntKind.i64.wrap (16 * (p : Int)) = (p16 : Int) := by rw [IntKind.wrap_i64]; omega
  have q2 : IntKind.i64.wrap (16 * (n : Int)) = (n16 : Int) := by rw [IntKind.wrap_i64]; omega
  have q3 : IntKind.i64.wrap ((n16 : Int) - (p16 : Int)) = (d : Int) := by rw [IntKind.wrap_i64]; omega
  have q4 : IntKind.i64.wrap ((e1 : Int) - 1) = (e : Int) := by rw [IntKind.wrap_i64]; omega
  obtain ⟨bs, hbs⟩ : ∃ bs, bs = (putA [65536, (n : Int), (p16 : Int), (e : Int), (d : Int)] ⟨#[73, 72, 72, 72, 72]⟩) := ⟨_, rfl⟩
  rw [← hbs]
  simp only [← hbs] at HPT
  have HPT := Lib.hid HPT
  have HPE := Lib.hid hp
  have hsh : IntKind.i64.wrap ((2 : Int) ^ min e 64) = (p : Int) := by
    rw [Nat.min_eq_left (by omega), IntKind.wrap_i64]
    rcases (show e = 0 ∨ e = 1 ∨ e = 2 ∨ e = 3 ∨ e = 4 ∨ e = 5 ∨ e = 6 by omega) with h | h | h | h | h | h | h <;> (subst h; subst hp; rfl)
  clear hbs hd hp16 hn16 hp he hpn h1 h2 he6 he1
  go_enter Try.func51, Try.ntmps51
  go_wp2_with fail
  refine (HLN.out _).mono ?_
  rintro e w1 ⟨rfl, rfl⟩
  go_wp2_with fail
  refine (HPT.out _ _ (num_new .i64 w [65536, (n : Int), (p16 : Int), _, (d : Int)] _ (by simp))).mono ?_
  rintro e w2 ⟨hb2, r, B, rfl, hBB, how⟩
  have hb3 := ((Below.refl _ w).alloc (Nat.le_refl _) _).trans (hb2.mono (Nat.le_of_lt (heap_more _ _)))
  have HB3 := Lib.hid hb3
  have HOW := Lib.hid how
  have HSZ := Lib.hid (Nat.le_trans (Nat.le_of_lt (heap_more w (.cells #[.int .i64 65536, .int .i64 (n : Int), .int .i64 (p16 : Int), .int .i64 (e : Int), .int .i64 (d : Int)] 3))) hBB)
  clear hb2 hb3 how hBB
  go_wp2_with fail
  go_ret
  exact ⟨HB3.out, _, _, rfl, HSZ.out, HOW.out⟩
end Go.Proofs.Ytlpnikolnohcaaa
