/-
  BinSums.
-/
import Derived.Test.YtpnlopmmcclhiaaWorks4
namespace Go.Proofs.Ytpnlopmmcclhiaa
open Go Go.RowKit

theorem AllB.append {a b : List Int} (ha : AllB a) (hb : AllB b) : AllB (a ++ b) := fun x hx => by
  rcases List.mem_append.1 hx with h | h
  · exact ha x h
  · exact hb x h

theorem sumS_noughts (l : List Int) : sumS (l ++ [0, 0, 0]) = sumS l := by
  unfold sumS
  rw [sumT_append]
  simp [sumT]

theorem sumS_both (a b : List Int) (h : a.length % 4 = 0) : sumS (a ++ b) = (sumS a + sumS b) % 4294967296 := by
  unfold sumS
  rw [sumT_append, show 0 + a.length = 0 + 4 * (a.length / 4) by omega, sumT_four]
  omega

set_option maxHeartbeats 4000000 in
set_option maxRecDepth 20000 in
theorem binSums_any (hP : PutC 19) (w : World) (va vb : Value) (a b : List Int) (ha : AllB a) (hb : AllB b) (hva : NumZ .u8 w va a) (hvb : NumZ .u8 w vb b) (hna : ∀ n c, va = .slice none n c → n = 0 ∧ c = 0) (hnb : ∀ n c, vb = .slice none n c → n = 0 ∧ c = 0) :
    Calls Try.prog 6 #[va, vb] w fun e w' => e = .returned (.bool true) ∧ Below w.heap.size w w' := by
  have HW := Lib.hid (fun w => works4_any hP w)
  by_cases hl1 : a.length ≤ 2000
  · by_cases hl2 : b.length ≤ 2000
    · have HS : Hid (∀ (w : World) v (l : List Int), NumZ .u8 w v l → AllB l → l.length ≤ 1000000 → Calls Try.prog 23 #[v] w fun e w' => e = .returned (.int .u32 (sumS l)) ∧ Below w.heap.size w w') := Lib.hid (fun w v l h1 h2 h3 => sum_any w v l h1 h2 h3)
      have HR : Hid (∀ (w : World) v (l : List Int), NumZ .u8 w v l → AllB l → l.length ≤ 1000000 → Calls Try.prog 24 #[v] w fun e w' => e = .returned (.int .u32 (sumS l)) ∧ Below w.heap.size w w') := Lib.hid (fun w v l h1 h2 h3 => refSum_any w v l h1 h2 h3)
      have HVA := Lib.hid hva
      have HVB := Lib.hid hvb
      have HNA := Lib.hid hna
      have HNB := Lib.hid hnb
      have HA := Lib.hid ha
      have HB := Lib.hid hb
      obtain ⟨A, ca, rfl, _, _, _⟩ := hva
      obtain ⟨B, cb, rfl, _, _, _⟩ := hvb
      rename_i g1 g2 g3 g4 g5 g6
      obtain ⟨x, hx⟩ : ∃ x, x = sumS a := ⟨_, rfl⟩
      obtain ⟨y, hy⟩ : ∃ y, y = sumS b := ⟨_, rfl⟩
      have HX := Lib.hid hx
      have HY := Lib.hid hy
      obtain ⟨N, hN⟩ : ∃ N, N = a.length := ⟨_, rfl⟩
      obtain ⟨M, hM⟩ : ∃ M, M = b.length := ⟨_, rfl⟩
      have HN := Lib.hid hN
      have HM := Lib.hid hM
      rw [← hN] at HVA HNA hl1 ⊢
      rw [← hM] at HVB HNB hl2 ⊢
      have HL1 := Lib.hid hl1
      have HL2 := Lib.hid hl2
      have b1 : (2000 < (N : Int)) = False := eq_false (by omega)
      have b2 : (2000 < (M : Int)) = False := eq_false (by omega)
      have bx : (x != x) = false := by simp
      have by_ : (y != y) = false := by simp
      have n0 : (0 : Int) ≤ (N : Int) := Int.natCast_nonneg _
      clear g1 g2 g3 g4 g5 g6 hx hy hN hM hl1 hl2 hna hnb ha hb
      go_enter Try.func6, Try.ntmps6
      go_wp2_with fail
      refine (HS.out _ _ a HVA.out HA.out (by have := HN.out; have := HL1.out; omega)).mono ?_
      rintro e w1 ⟨rfl, hb1⟩
      rw [← HX.out]
      have HB1 := Lib.hid hb1
      clear hb1
      go_wp2_with fail
      refine (HS.out _ _ b (HVB.out.below HB1.out) HB.out (by have := HM.out; have := HL2.out; omega)).mono ?_
      rintro e w2 ⟨rfl, hb2⟩
      rw [← HY.out]
      have HB2 := Lib.hid (HB1.out.trans (hb2.mono HB1.out.size))
      clear hb2
      go_wp2_with fail
      refine (HR.out _ _ a (HVA.out.below HB2.out) HA.out (by have := HN.out; have := HL1.out; omega)).mono ?_
      rintro e w3 ⟨rfl, hb3⟩
      rw [← HX.out]
      have HB3 := Lib.hid (HB2.out.trans (hb3.mono HB2.out.size))
      clear hb3
      go_wp2_with fail
      refine (HR.out _ _ b (HVB.out.below HB3.out) HB.out (by have := HM.out; have := HL2.out; omega)).mono ?_
      rintro e w4 ⟨rfl, hb4⟩
      rw [← HY.out]
      have HB4 := Lib.hid (HB3.out.trans (hb4.mono HB3.out.size))
      clear hb4
      go_wp2_with (at_builtin; refine wp_append_b rfl _ _ rfl w4.heap.size _ [] rfl (own_new _ w4 [] (by simp) (Nat.le_refl _)) _ a rfl ((HVA.out.below HB4.out).alloc _) HNA.out (by have := HN.out; have := HL1.out; simp; omega) (Nat.le_of_lt (heap_more _ _)) ?_)
      intro v5 w5 how5 hk5
      have HB5 := Lib.hid (hk5 _ ((Below.refl _ w4).alloc (Nat.le_refl _) _))
      have HO5 := Lib.hid how5
      clear hk5 how5
      go_wp2_with (at_builtin; refine wp_append_b rfl _ _ rfl w4.heap.size v5 ([] ++ a) rfl (ownB_stays HO5.out ((Below.refl _ _).alloc (Nat.le_refl _) _)) _ [0, 0, 0] rfl (num_new .u8 w5 [0, 0, 0] _ (by decide)) (fun n c h => by cases h) (by have := HN.out; have := HL1.out; simp; omega) (Nat.le_trans HB5.out.size (Nat.le_of_lt (heap_more _ _))) ?_)
      intro v6 w6 how6 hk6
      have HB6 := Lib.hid (HB4.out.trans ((hk6 _ (HB5.out.alloc HB5.out.size _)).mono HB4.out.size))
      have HZ6 : Hid (NumZ .u8 w6 v6 (a ++ [0, 0, 0])) := Lib.hid how6.read
      clear hk6 how6
      go_wp2_with fail
      refine (HS.out _ _ (a ++ [0, 0, 0]) HZ6.out (HA.out.append (fun x hx => by simp at hx; omega)) (by have := HN.out; have := HL1.out; simp; omega)).mono ?_
      rintro e w7 ⟨rfl, hb7⟩
      rw [sumS_noughts, ← HX.out]
      have HB7 := Lib.hid (HB6.out.trans (hb7.mono HB6.out.size))
      clear hb7
      go_wp2_with (at_builtin; refine wp_append_b rfl _ _ rfl w7.heap.size _ [] rfl (own_new _ w7 [] (by simp) (Nat.le_refl _)) _ a rfl ((HVA.out.below HB7.out).alloc _) HNA.out (by have := HN.out; have := HL1.out; simp; omega) (Nat.le_of_lt (heap_more _ _)) ?_)
      intro v8 w8 how8 hk8
      have HB8 := Lib.hid (hk8 _ ((Below.refl _ w7).alloc (Nat.le_refl _) _))
      have HO8 := Lib.hid how8
      have HB78 := Lib.hid (HB7.out.trans (HB8.out.mono HB7.out.size))
      clear hk8 how8
      go_wp2_with (at_builtin; refine wp_append_b rfl _ _ rfl w7.heap.size v8 ([] ++ a) rfl HO8.out _ b rfl (HVB.out.below HB78.out) HNB.out (by have := HN.out; have := HL1.out; have := HM.out; have := HL2.out; simp; omega) HB8.out.size ?_)
      intro v9 w9 how9 hk9
      have HB9 := Lib.hid (HB7.out.trans ((hk9 _ HB8.out).mono HB7.out.size))
      have HZ9 : Hid (NumZ .u8 w9 v9 (a ++ b)) := Lib.hid how9.read
      clear hk9 how9
      by_cases h4 : N % 4 = 0
      · have h40 : Int.tmod (N : Int) 4 = 0 := by rw [Int.tmod_eq_emod_of_nonneg n0]; omega
        have h41 : (N : Int) % 4 = 0 := by omega
        have HBO : Hid (sumS (a ++ b) = IntKind.u32.wrap (x + y)) := Lib.hid (by rw [sumS_both a b (by rw [← HN.out]; exact h4), ← HX.out, ← HY.out, wrap_u32])
        obtain ⟨z, hz⟩ : ∃ z, z = IntKind.u32.wrap (x + y) := ⟨_, rfl⟩
        have HZZ := Lib.hid hz
        have bz : (z == z) = true := by simp
        have hz2 : (x + y) % 4294967296 = z := by rw [hz, wrap_u32]
        have hz3 : IntKind.u32.wrap (x + y) = z := hz.symm
        clear h4 hz
        go_wp2_with fail
        refine (HS.out _ _ (a ++ b) HZ9.out (HA.out.append HB.out) (by have := HN.out; have := HL1.out; have := HM.out; have := HL2.out; simp; omega)).mono ?_
        rintro e w10 ⟨rfl, hb10⟩
        rw [HBO.out, ← HZZ.out]
        have HB10 := Lib.hid (HB9.out.trans (hb10.mono HB9.out.size))
        clear hb10
        go_wp2_with fail
        refine (HW.out _).mono ?_
        rintro e w11 ⟨rfl, hb11⟩
        have HB11 := Lib.hid (HB10.out.trans (hb11.mono HB10.out.size))
        clear hb11
        go_wp2_with fail
        go_ret
        exact ⟨rfl, HB11.out⟩
      · have h40 : (Int.tmod (N : Int) 4 != 0) = true := by rw [Int.tmod_eq_emod_of_nonneg n0]; simp; omega
        have h41 : ((N : Int) % 4 != 0) = true := by simp; omega
        clear h4
        go_wp2_with fail
        refine (HW.out _).mono ?_
        rintro e w11 ⟨rfl, hb11⟩
        have HB11 := Lib.hid (HB9.out.trans (hb11.mono HB9.out.size))
        clear hb11
        go_wp2_with fail
        go_ret
        exact ⟨rfl, HB11.out⟩
    · obtain ⟨A, ca, rfl, _, _, _⟩ := hva
      obtain ⟨B, cb, rfl, _, _, _⟩ := hvb
      rename_i g1 g2 g3 g4 g5 g6
      have b1 : (2000 < (a.length : Int)) = False := eq_false (by omega)
      have b2 : (2000 < (b.length : Int)) = True := eq_true (by omega)
      clear g1 g2 g3 g4 g5 g6 hl1 hl2 hna hnb ha hb
      go_enter Try.func6, Try.ntmps6
      go_wp2_with fail
      refine (HW.out _).mono ?_
      rintro e w1 ⟨rfl, hb1⟩
      go_wp2_with fail
      go_ret
      exact ⟨rfl, hb1⟩
  · obtain ⟨A, ca, rfl, _, _, _⟩ := hva
    obtain ⟨B, cb, rfl, _, _, _⟩ := hvb
    rename_i g1 g2 g3 g4 g5 g6
    have b1 : (2000 < (a.length : Int)) = True := eq_true (by omega)
    clear g1 g2 g3 g4 g5 g6 hl1 hna hnb ha hb
    go_enter Try.func6, Try.ntmps6
    go_wp2_with fail
    refine (HW.out _).mono ?_
    rintro e w1 ⟨rfl, hb1⟩
    go_wp2_with fail
    go_ret
    exact ⟨rfl, hb1⟩
end Go.Proofs.Ytpnlopmmcclhiaa
