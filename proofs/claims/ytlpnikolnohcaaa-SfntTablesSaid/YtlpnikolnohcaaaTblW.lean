/-
  SfntTables: the walk.
-/
import Derived.Test.YtlpnikolnohcaaaRefTab
import Derived.Test.YtlpnikolnohcaaaSameT
import Derived.Test.YtlpnikolnohcaaaTabF
import Derived.Test.YtlpnikolnohcaaaWk5
namespace Go.Proofs.Ytlpnikolnohcaaa
open Go Go.RowKit

/-- names of tables are four bytes -/
theorem tablesS_names (l : List Int) (hA : AllB l) : (∀ t ∈ (tablesS l).1, t.1.length = 4 ∧ AllB t.1) ∧ (tablesS l).1.length ≤ 1000000 := by
  unfold tablesS
  split
  · exact ⟨fun t ht => (by cases ht), by simp⟩
  · have hb := numAt_b hA 4 2
    have hn : (numAt l 4 2).toNat ≤ 1000000 := by omega
    cases hq : tabsL l (numAt l 4 2).toNat (numAt l 4 2).toNat with
    | none => exact ⟨fun t ht => (by cases ht), by simp⟩
    | some ts =>
      rw [tabsL_len l _ _ ts hq]
      refine ⟨fun t ht => ?_, by simp only [List.length_map, List.length_range]; exact hn⟩
      obtain ⟨i, _, rfl⟩ := List.mem_map.1 ht
      refine ⟨rfl, fun x hx => ?_⟩
      simp only [tabAt, List.mem_cons, List.not_mem_nil, or_false] at hx
      rcases hx with rfl | rfl | rfl | rfl <;> exact getD_b hA _

set_option maxHeartbeats 4000000 in
set_option maxRecDepth 20000 in
theorem sfntTables_any (w : World) (v : Value) (l : List Int) (hA : AllB l) (hv : NumZ .u8 w v l) (hnn : ∀ n c, v = .slice none n c → n = 0 ∧ c = 0) :
    Calls Try.prog 3 #[v] w fun e w' => e = .returned (.bool true) ∧ Below w.heap.size w w' := by
  have HW := Lib.hid (fun w => works5_any w)
  have HV := Lib.hid hv
  have HNN := Lib.hid hnn
  have HA := Lib.hid hA
  obtain ⟨A, c, rfl, _, _, hcell⟩ := hv
  obtain ⟨N, hN⟩ : ∃ N, N = l.length := ⟨_, rfl⟩
  have HN := Lib.hid hN
  rw [← hN] at HV HNN ⊢
  by_cases h2 : 5000 < N
  · have b1 : (5000 < (N : Int)) = True := eq_true (by omega)
    clear h2 hN hcell hA hnn
    go_enter Try.func3, Try.ntmps3
    go_wp2_with fail
    refine (HW.out _).mono ?_
    rintro e w1 ⟨rfl, hb⟩
    have HB := Lib.hid hb
    clear hb
    go_wp2_with fail
    go_ret
    exact ⟨rfl, HB.out⟩
  · have b1 : (5000 < (N : Int)) = False := eq_false (by omega)
    have HL : Hid (l.length ≤ 5000) := Lib.hid (by omega)
    have HT : Hid (∀ wx vx, NumZ .u8 wx vx l → (∀ n c, vx = .slice none n c → n = 0 ∧ c = 0) → Calls Try.prog 9 #[vx] wx fun e w' => Below wx.heap.size wx w' ∧ ∃ r, e = .returned (.tuple #[r, .int .i64 (tablesS l).2]) ∧ OwnT wx.heap.size w' r (tablesS l).1) := Lib.hid (fun wx vx h1 h2 => tablesP_any wx vx l h1 h2 HA.out (by have := HL.out; omega))
    have HR : Hid (∀ wx, Below w.heap.size w wx → Calls Try.prog 10 #[.slice A N c] wx fun e w' => Below wx.heap.size wx w' ∧ ∃ r, e = .returned (.tuple #[r, .int .i64 (tablesS l).2]) ∧ OwnU wx.heap.size w' r (tablesS l).1) := Lib.hid (fun wx hb => refTables_any wx _ l (HV.out.below hb) HNN.out HA.out (by have := HL.out; omega))
    have HSB : Hid (∀ w a b, NumZ .u8 w a l → NumZ .u8 w b l → Calls Try.prog 12 #[a, b] w fun e w' => e = .returned (.bool true) ∧ w = w') := Lib.hid (fun w a b ha hb => sameB_any _ a b w ha hb)
    have h4 := tablesS_names l hA
    generalize (tablesS l).1 = ts at HT HR h4
    generalize (tablesS l).2 = y at HT HR
    have H4 : Hid (∀ t ∈ ts, t.1.length = 4) := Lib.hid (fun t ht => (h4.1 t ht).1)
    have HS : Hid (∀ wx a b, TabsZ wx a ts → TabsZ wx b ts → Calls Try.prog 11 #[a, b] wx fun e w' => e = .returned (.bool true) ∧ Below wx.heap.size wx w') := Lib.hid (fun wx a b h1 h2 => sameT_any ts a b wx h4.1 h1 h2 h4.2)
    have bey : (y == y) = true := by simp
    clear h2 hN hcell hA hnn h4
    go_enter Try.func3, Try.ntmps3
    go_wp2_with (at_builtin; refine wp_append_b rfl _ _ rfl w.heap.size _ [] rfl (own_new w.heap.size w [] (by decide) (Nat.le_refl _)) _ l rfl (HV.out.below (below_alloc _ (Below.refl _ w))) HNN.out (by have := HL.out; simp; omega) (Nat.le_of_lt (heap_more _ _)) ?_)
    intro v2 w2 how2 hk2
    have HB2 := Lib.hid (hk2 w (below_alloc _ (Below.refl _ w)))
    have HN2 : Hid (NumZ .u8 w2 v2 l) := Lib.hid how2.read
    have HNN2 := Lib.hid how2.nn
    clear how2 hk2
    go_wp2_with fail
    refine (HT.out _ _ HN2.out HNN2.out).mono ?_
    rintro e w3 ⟨hb, r3, rfl, how3⟩
    have HB3 := Lib.hid (HB2.out.trans (hb.mono HB2.out.size))
    have HN3 := Lib.hid (HN2.out.below hb)
    have HO3 := Lib.hid (how3.read H4.out)
    clear hb how3
    go_wp2_with fail
    refine (HR.out _ HB3.out).mono ?_
    rintro e w4 ⟨hb, r4, rfl, how4⟩
    have HB4 := Lib.hid (HB3.out.trans (hb.mono HB3.out.size))
    have HN4 := Lib.hid (HN3.out.below hb)
    have HO4 := Lib.hid (HO3.out.below hb)
    have HU4 := Lib.hid (how4.read H4.out)
    clear hb how4
    go_wp2_with fail
    refine (HS.out _ _ _ HO4.out HU4.out).mono ?_
    rintro e w5 ⟨rfl, hb⟩
    have HB5 := Lib.hid (HB4.out.trans (hb.mono HB4.out.size))
    have HN5 := Lib.hid (HN4.out.below hb)
    clear hb
    go_wp2_with fail
    refine (HSB.out _ _ _ HN5.out (HV.out.below HB5.out)).mono ?_
    rintro e w6 ⟨rfl, rfl⟩
    go_wp2_with fail
    refine (HW.out _).mono ?_
    rintro e w7 ⟨rfl, hb⟩
    have HB7 := Lib.hid (HB5.out.trans (hb.mono HB5.out.size))
    clear hb
    go_wp2_with fail
    go_ret
    exact ⟨rfl, HB7.out⟩
end Go.Proofs.Ytlpnikolnohcaaa
