/-
  sfnt.joinedSize: how many bytes what is joined has.
-/
import Derived.Test.YtlpnikolnohcaaaRise
import Derived.Test.YtlpnikolnohcaaaLenP
import Derived.Test.YtlpnikolnohcaaaFlt
namespace Go.Proofs.Ytlpnikolnohcaaa
open Go Go.RowKit

/-- bodies that are there -/
def BodsZ (w : World) (v : Value) (bs : List (List Int)) : Prop :=
  ∃ A c, v = .slice A bs.length c ∧ bs.length ≤ c ∧ c ≤ 9223372036854775807 ∧ (∀ b ∈ bs, AllB b) ∧ (bs ≠ [] → ∃ g off, A = some ⟨g, off, none⟩ ∧ g < w.heap.size ∧ ∀ (i : Nat) (hi : i < bs.length), ∃ vb, w.cell? ⟨g, off + i, none⟩ = some vb ∧ NumZ .u8 w vb bs[i] ∧ ∀ n c', vb = .slice none n c' → n = 0 ∧ c' = 0)

theorem BodsZ.below {w w' : World} {v : Value} {bs : List (List Int)} (h : BodsZ w v bs) (hb : Below w.heap.size w w') : BodsZ w' v bs := by
  obtain ⟨A, c, e, hc, hc2, h4, hx⟩ := h
  refine ⟨A, c, e, hc, hc2, h4, fun hne => ?_⟩
  obtain ⟨g, off, hA, hg, hcell⟩ := hx hne
  have := hb.size
  refine ⟨g, off, hA, by omega, fun i hi => ?_⟩
  obtain ⟨vb, h1, h2, h3⟩ := hcell i hi
  exact ⟨vb, by rw [hb.cell (by exact hg)]; exact h1, h2.below hb, h3⟩

/-- the size, the first i bodies counted -/
def sizeJ (bs : List (List Int)) : Nat → Nat
  | 0 => 12 + 16 * bs.length
  | i + 1 => sizeJ bs i + upN (bs.getD i []).length

theorem sizeJ_le (bs : List (List Int)) (i : Nat) : ∀ k, sizeJ bs i ≤ sizeJ bs (i + k)
  | 0 => Nat.le_refl _
  | k + 1 => Nat.le_trans (sizeJ_le bs i k) (Nat.le_add_right _ _)

set_option maxHeartbeats 4000000 in
set_option maxRecDepth 20000 in
theorem joinedSize_any (w : World) (v : Value) (bs : List (List Int)) (hv : BodsZ w v bs) (hsz : sizeJ bs bs.length ≤ 1000000) :
    Calls Try.prog 60 #[v] w fun e w' => e = .returned (.int .i64 ((sizeJ bs bs.length : Nat) : Int)) ∧ Below w.heap.size w w' := by
  have HV := Lib.hid hv
  obtain ⟨A, c, rfl, _, _, h4, hcell⟩ := hv
  have hlen : 12 + 16 * bs.length ≤ 1000000 := Nat.le_trans (by have := sizeJ_le bs 0 bs.length; rwa [Nat.zero_add] at this) hsz
  have HBG := Lib.hid (begin_any w bs.length (by omega))
  have HFL := Lib.hid (fun w n h => filled_any w n h)
  have HOK := Lib.hid (fun w => require_ok w 3)
  obtain ⟨N, hN⟩ : ∃ N, N = bs.length := ⟨_, rfl⟩
  have HN := Lib.hid hN
  have HSZ := Lib.hid hsz
  rw [← hN] at HV HBG hlen HSZ ⊢
  obtain ⟨s0, hs0⟩ : ∃ s0, s0 = 12 + 16 * N := ⟨_, rfl⟩
  rw [← hs0] at HBG
  have HS0 : Hid (s0 = sizeJ bs 0) := Lib.hid (by rw [hs0, hN]; rfl)
  obtain ⟨SN, hSN⟩ : ∃ SN, SN = sizeJ bs N := ⟨_, rfl⟩
  have HSN := Lib.hid hSN
  rw [← hSN]
  clear h4 hcell hN hsz hs0 hSN
  have HLN := Lib.hid hlen
  clear hlen
  go_enter Try.func60, Try.ntmps60
  go_wp2_with fail
  refine (HBG.out).mono ?_
  rintro e w1 ⟨rfl, rfl⟩
  go_wp2_with fail
  go_loopg [3, 11] N (fun k vs vi wr => ∃ i : Nat, i + k = N ∧ vs = .int .i64 ((sizeJ bs i : Nat) : Int) ∧ vi = .int .i64 (i : Int) ∧ Below w.heap.size w wr)
  case atStart => exact ⟨0, by omega, by rw [HS0.out], rfl, Below.refl _ _⟩
  case round =>
    obtain ⟨i, hik, rfl, rfl, hb⟩ := hrel
    have HB := Lib.hid hb
    have HIK := Lib.hid hik
    by_cases hi : i = N
    · have bi : ((i : Int) < (N : Int)) = False := eq_false (by omega)
      have HE : Hid (sizeJ bs i = SN) := Lib.hid (by rw [HSN.out, hi])
      generalize sizeJ bs i = x at HE ⊢
      clear hi hik hb
      go_wp2_with fail
      go_ret
      exact ⟨by rw [← HE.out]; rfl, HB.out⟩
    · have bi : ((i : Int) < (N : Int)) = True := eq_true (by omega)
      have i0 : (0 : Int) ≤ (i : Int) := Int.natCast_nonneg _
      have iN : (i : Int) < (N : Int) := by omega
      have hil : i < bs.length := by have := HN.out; omega
      obtain ⟨A2, c2, e2, _, _, _, hcs⟩ := HV.out.below hb
      injection e2 with e3 e4 e5
      subst e3
      clear e4 e5
      obtain ⟨g, off, rfl, _, hcs⟩ := hcs (by rintro rfl; simp at hil)
      obtain ⟨vb, hvb, hz, _⟩ := hcs i hil
      obtain ⟨A3, c3, rfl, _, _, _⟩ := hz
      have hle := sizeJ_le bs (i + 1) (N - (i + 1))
      rw [show i + 1 + (N - (i + 1)) = N by omega] at hle
      have hSM := HSZ.out
      have hnx : sizeJ bs (i + 1) = sizeJ bs i + upN bs[i].length := by
        show sizeJ bs i + upN (bs.getD i []).length = _
        rw [List.getD_eq_getElem?_getD, List.getElem?_eq_getElem hil]; rfl
      have hup := upN_le bs[i].length
      obtain ⟨m, hm⟩ : ∃ m, m = bs[i].length := ⟨_, rfl⟩
      rw [← hm] at hnx hup hvb
      obtain ⟨y, hy⟩ : ∃ y, y = sizeJ bs (i + 1) := ⟨_, rfl⟩
      rw [← hy] at hnx hle
      obtain ⟨x, hx⟩ : ∃ x, x = sizeJ bs i := ⟨_, rfl⟩
      rw [← hx] at hnx ⊢
      obtain ⟨u, hu⟩ : ∃ u, u = upN m := ⟨_, rfl⟩
      have HFLm := Lib.hid (fun w => HFL.out w m (by omega))
      have HFL2 : Hid (∀ w, Calls Try.prog 63 #[.int .i64 (m : Int)] w fun e w' => e = .returned (.int .i64 (u : Int)) ∧ w = w') := Lib.hid (fun w => by rw [hu]; exact HFLm.out w)
      rw [← hu] at hnx hup
      have q1 : IntKind.i64.wrap ((x : Int) + (u : Int)) = (y : Int) := by rw [IntKind.wrap_i64]; omega
      have q2 : IntKind.i64.wrap ((i : Int) + 1) = ((i + 1 : Nat) : Int) := by rw [IntKind.wrap_i64]; have := HLN.out; omega
      have b2 : ((y : Int) ≤ 16777216) = True := eq_true (by omega)
      have HY := Lib.hid hy
      have HIN := Lib.hid hi
      clear hi hik hb hcs hle hSM hnx hup hm hx hu hy HFLm
      go_wp2_with fail
      refine (HFL2.out _).mono ?_
      rintro e w2 ⟨rfl, rfl⟩
      go_wp2_with fail
      refine (HOK.out _).mono ?_
      rintro e w3 ⟨rfl, rfl⟩
      go_wp2_with fail
      go_roundg (gk - 1)
      case measure => have := HIK.out; have := HIN.out; omega
      case rel => exact ⟨i + 1, by have := HIK.out; have := HIN.out; omega, by rw [← HY.out], rfl, HB.out⟩
end Go.Proofs.Ytlpnikolnohcaaa
