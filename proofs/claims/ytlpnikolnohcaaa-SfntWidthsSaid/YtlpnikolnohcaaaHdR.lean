/-
  The document's first bytes of a font.
-/
import Derived.Test.YtlpnikolnohcaaaPowR
import Derived.Test.YtlpnikolnohcaaaRefPut2
namespace Go.Proofs.Ytlpnikolnohcaaa
open Go Go.RowKit

/-- a font's first bytes -/
def headL (n : Nat) : List Int := (putA [65536, (n : Int), ((16 * 2 ^ Nat.log2 n : Nat) : Int), ((Nat.log2 n : Nat) : Int), ((16 * n - 16 * 2 ^ Nat.log2 n : Nat) : Int)] ⟨#[73, 72, 72, 72, 72]⟩).2

set_option maxRecDepth 20000 in
theorem headR_any (w : World) (n : Nat) (h1 : 1 ≤ n) (h2 : n ≤ 64) : Calls Try.prog 26 #[.int .i64 (n : Int)] w fun e w' => Below w.heap.size w w' ∧ ∃ r B, e = .returned r ∧ w.heap.size ≤ B ∧ OwnB B w' r (headL n) := by
  have HPW := power_any w n h1 (by omega)
  have HPT := fun wx v hv => refPut_any wx v [65536, (n : Int), ((16 * 2 ^ Nat.log2 n : Nat) : Int), ((Nat.log2 n : Nat) : Int), ((16 * n - 16 * 2 ^ Nat.log2 n : Nat) : Int)] ⟨#[73, 72, 72, 72, 72]⟩ hv (by simp) (by decide)
  have hpn : 2 ^ Nat.log2 n ≤ n := (Nat.le_log2 (by omega)).1 (Nat.le_refl _)
  unfold headL
  obtain ⟨e, he⟩ : ∃ e, e = Nat.log2 n := ⟨_, rfl⟩
  rw [← he] at HPW hpn HPT ⊢
  obtain ⟨p, hp⟩ : ∃ p, p = 2 ^ e := ⟨_, rfl⟩
  rw [← hp] at HPW hpn HPT ⊢
  obtain ⟨p16, hp16⟩ : ∃ x, x = 16 * p := ⟨_, rfl⟩
  obtain ⟨n16, hn16⟩ : ∃ x, x = 16 * n := ⟨_, rfl⟩
  rw [← hp16, ← hn16] at HPT ⊢
  obtain ⟨d, hd⟩ : ∃ d, d = n16 - p16 := ⟨_, rfl⟩
  rw [← hd] at HPT ⊢
  have q1 : IntKind.i64.wrap (16 * (p : Int)) = (p16 : Int) := by rw [IntKind.wrap_i64]; omega
  have q2 : IntKind.i64.wrap (16 * (n : Int)) = (n16 : Int) := by rw [IntKind.wrap_i64]; omega
  have q3 : IntKind.i64.wrap ((n16 : Int) - (p16 : Int)) = (d : Int) := by rw [IntKind.wrap_i64]; omega
  obtain ⟨bs, hbs⟩ : ∃ bs, bs = (putA [65536, (n : Int), (p16 : Int), (e : Int), (d : Int)] ⟨#[73, 72, 72, 72, 72]⟩) := ⟨_, rfl⟩
  rw [← hbs]
  simp only [← hbs] at HPT
  have HPW := Lib.hid HPW
  have HPT := Lib.hid HPT
  clear hbs hd hp16 hn16 hp he hpn h1 h2
  go_enter Try.func26, Try.ntmps26
  go_wp2_with fail
  refine (HPW.out).mono ?_
  rintro e w1 ⟨rfl, hb1⟩
  have HB1 := Lib.hid hb1
  clear hb1
  go_wp2_with fail
  refine (HPT.out _ _ (num_new .i64 w1 [65536, (n : Int), (p16 : Int), _, (d : Int)] _ (by simp))).mono ?_
  rintro e w2 ⟨hb2, r, rfl, how⟩
  have hb3 := (HB1.out.trans (((Below.refl _ w1).alloc (Nat.le_refl _) _).mono HB1.out.size)).trans (hb2.mono (Nat.le_trans HB1.out.size (Nat.le_of_lt (heap_more _ _))))
  have HB3 := Lib.hid hb3
  have HOW := Lib.hid how
  have HSZ := Lib.hid (Nat.le_trans HB1.out.size (Nat.le_of_lt (heap_more w1 (.cells #[.int .i64 65536, .int .i64 (n : Int), .int .i64 (p16 : Int), .int .i64 (e : Int), .int .i64 (d : Int)] 2))))
  clear hb2 hb3 how
  go_wp2_with fail
  go_ret
  exact ⟨HB3.out, _, _, rfl, HSZ.out, HOW.out⟩
end Go.Proofs.Ytlpnikolnohcaaa
