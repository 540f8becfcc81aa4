/-
  UcdDecodes: any bytes are decoded, or refused at their place, as the document says; they stay. (The walk, given what works answers.)
-/
import Derived.Test.YtjpdhfolfmamcaaDoorDecode
import Derived.Lib.ConvBytes
import Derived.Lib.SmallJoins
import Derived.Laws.Cover4
namespace Go.Proofs.YtjpdhfolfmamcaaDoor
open Go Go.RowKit

/-- a row of runes as text -/
def textOf (l : List Nat) : ByteArray := runesBytes (l.map fun d : Nat => (d : Int))

theorem conv_runes (w : World) (v : Value) (l : List Nat) (h : RunesR w v l) : (convert 34 9 v).run Tryd.prog w = .ok (.string (textOf l)) w := by
  obtain ⟨A, c, rfl, hc, _, hx⟩ := h
  cases A with
  | none =>
    have hl : l = [] := by
      rcases Classical.em (l = []) with h | h
      · exact h
      · obtain ⟨g, e, _⟩ := hx h; cases e
    subst hl
    rw [run_convert_runes_nil w 34 9 21 _ c Tryd.underlying34 Tryd.underlying21 Tryd.underlying9]
    rfl
  | some a =>
    have h1 := run_convert_runes (P := Tryd.prog) w 34 9 21 a l.length c (l.map fun d : Nat => (d : Int)) (by simp) Tryd.underlying34 Tryd.underlying21 Tryd.underlying9 (fun j hj => by
      have hj' : j < l.length := by simpa using hj
      obtain ⟨g, e, hg, hcell⟩ := hx (by rintro rfl; simp at hj')
      injection e with e
      subst e
      rw [add_flat, Nat.zero_add, hcell j hj']
      simp [hj'])
    rw [h1, List.take_of_length_le (by simp)]
    rfl

theorem conv_string (w : World) (s : ByteArray) (hs : s.size ≤ maxLen) : ∃ v w', (convert 9 33 (.string s)).run Tryd.prog w = .ok v w' ∧ (∃ c, v = .slice (some ⟨w.heap.size, 0, none⟩) s.size c) ∧ BytesR w' v s ∧ Below w.heap.size w w' := by
  refine ⟨_, _, Lib.run_convert_string_bytes (P := Tryd.prog) w 9 33 5 s Tryd.underlying9 Tryd.underlying33 Tryd.underlying5, ⟨_, rfl⟩, ?_, Joins.below_bytesWorld _ _ _ _ (Nat.le_refl _)⟩
  refine ⟨_, _, rfl, grownCap_ge _ _ _ _, ?_, fun _ => ⟨w.heap.size, 0, rfl, by rw [Lib.bytesWorld_size]; omega, ⟨fun j hj => ?_⟩⟩⟩
  · have := grownCap_le_maxLen w s.size 0 5 hs
    unfold maxLen at this; omega
  · rw [Nat.zero_add, Lib.bytesWorld_cell w 5 s j hj]
    congr 2
    have h' : j < s.data.toList.length := by simpa using hj
    rw [← bytes_list s j h']
    simp [hj]

set_option maxHeartbeats 4000000 in
set_option maxRecDepth 20000 in
theorem decodes_walk (s : ByteArray) (v : Value) (w : World) (hv : BytesR w v s) (hT : U8T w)
    (hW : ∀ w', Below w.heap.size w w' → Calls Tryd.prog 11 #[] w' fun e w'' => e = .returned (.bool true) ∧ Below w'.heap.size w' w'') :
    Calls Tryd.prog 5 #[v] w fun e w' => e = .returned (.bool true) ∧ Below w.heap.size w w' := by
  have HW := Lib.hid hW
  have HBR := Lib.hid hv
  have HT := Lib.hid hT
  have hconv := conv_bytes w v s hv
  obtain ⟨A, cap, rfl, hcap, hcap2, hx⟩ := hv
  obtain ⟨N, hN⟩ : ∃ N, N = s.size := ⟨_, rfl⟩
  have HN := Lib.hid hN
  rw [← hN] at HBR hconv ⊢
  clear hx hcap hcap2 hW hT
  by_cases hbig : 30000 < N
  · have hbI : (30000 : Int) < (N : Int) := by omega
    clear hbig hN
    go_enter Tryd.func5, Tryd.ntmps5
    go_wp2_with fail
    refine (HW.out w (Below.refl _ _)).mono ?_
    rintro e w1 ⟨rfl, hb⟩
    go_wp2_with fail
    go_ret
    exact ⟨rfl, hb⟩
  · have hbI : (N : Int) ≤ 30000 := by omega
    obtain ⟨v1, w1, hrun, ⟨c1, rfl⟩, hbr1, hb1⟩ := conv_string w s (by rw [← hN]; unfold maxLen; omega)
    rw [← hN] at hrun hbr1
    have HBR1 := Lib.hid hbr1
    have HB1 := Lib.hid hb1
    have hsz2 : s.size ≤ 1000000 := by omega
    have HS2 := Lib.hid hsz2
    have hk : w.heap.size ≤ w1.heap.size := hb1.size
    clear hbig hN hbr1 hb1 hsz2
    go_enter Tryd.func5, Tryd.ntmps5
    go_wp2_with fail
    refine (decode_any s _ _ HS2.out HBR1.out (u8_below HT.out HB1.out)).mono ?_
    rintro e w2 ⟨hb2, hend⟩
    have HB2 := Lib.hid (HB1.out.trans (hb2.mono hk))
    have HBR2 := Lib.hid (HBR1.out.below hb2)
    clear hb2 hrun
    rcases hend with ⟨hlt, rfl⟩ | ⟨heq, v2, rfl, hr2⟩
    · have HLT := Lib.hid hlt
      clear hlt
      go_wp2_with fail
      refine (refDecode_any s _ _ HS2.out (HBR.out.below HB2.out)).mono ?_
      rintro e w3 ⟨hb3, hend⟩
      have HB3 := Lib.hid (HB2.out.trans (hb3.mono HB2.out.size))
      have hc1 := conv_bytes w3 _ s (HBR2.out.below hb3)
      have hc2 := conv_bytes w3 _ s (HBR.out.below HB3.out)
      have hc3 := run_convert_runes_nil (P := Tryd.prog) w3 34 9 21 0 0 Tryd.underlying34 Tryd.underlying21 Tryd.underlying9
      clear hb3
      rcases hend with ⟨_, rfl⟩ | ⟨heq, _⟩
      · go_wp2_with fail
        refine (HW.out _ HB3.out).mono ?_
        rintro e w4 ⟨rfl, hb4⟩
        go_wp2_with fail
        go_ret
        exact ⟨rfl, HB3.out.trans (hb4.mono HB3.out.size)⟩
      · exact absurd heq (by have := HLT.out; omega)
    · have HEQ := Lib.hid heq
      have HR2 := Lib.hid hr2
      obtain ⟨A2, cap2, rfl, _⟩ := hr2
      clear heq
      go_wp2_with fail
      refine (refDecode_any s _ _ HS2.out (HBR.out.below HB2.out)).mono ?_
      rintro e w3 ⟨hb3, hend⟩
      have HB3 := Lib.hid (HB2.out.trans (hb3.mono HB2.out.size))
      have hc1 := conv_bytes w3 _ s (HBR2.out.below hb3)
      have hc2 := conv_bytes w3 _ s (HBR.out.below HB3.out)
      have hr3 := conv_runes w3 _ _ (HR2.out.below hb3)
      clear hb3
      rcases hend with ⟨hlt, _⟩ | ⟨_, v4, rfl, hr4⟩
      · exact absurd HEQ.out (by omega)
      · have hr5 := conv_runes w3 _ _ hr4
        obtain ⟨A4, cap4, rfl, _⟩ := hr4
        obtain ⟨L, hL⟩ : ∃ L, L = (fin s 0 []).1.length := ⟨_, rfl⟩
        obtain ⟨X, hX⟩ : ∃ X, X = textOf (fin s 0 []).1 := ⟨_, rfl⟩
        rw [← hL, ← hX] at hr3 hr5
        rw [← hL]
        clear hL hX
        go_wp2_with fail
        refine (HW.out _ HB3.out).mono ?_
        rintro e w4 ⟨rfl, hb4⟩
        go_wp2_with fail
        go_ret
        exact ⟨rfl, HB3.out.trans (hb4.mono HB3.out.size)⟩
end Go.Proofs.YtjpdhfolfmamcaaDoor
