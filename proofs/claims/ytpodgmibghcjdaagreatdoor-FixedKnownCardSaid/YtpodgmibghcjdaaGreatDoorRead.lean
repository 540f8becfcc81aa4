/-
  fixed.Read.
-/
import Derived.Test.YtpodgmibghcjdaaGreatDoorFace
import Derived.Test.YtpodgmibghcjdaaGreatDoorVal
import Derived.Test.YtpodgmibghcjdaaGreatDoorGlob
import Derived.Test.YtpodgmibghcjdaaGreatDoorBase
namespace Go.Proofs.YtpodgmibghcjdaaGreatDoor
open Go Go.RowKit

/-- how Read's work ends -/
def readE (l : List UInt8) : Ending :=
  match splitP l with
  | none => gone 2
  | some (b, X, Y) => if 18446744073709551615 < numL X then gone 10 else endQ (numL X * 65536 + scaledN Y) b

/-- is the whole too great for a word? -/
def tooGreat (l : List UInt8) : Prop := ∃ b X Y, splitP l = some (b, X, Y) ∧ 18446744073709551615 < numL X

/-- behind a face's door: its two results stand in their new variables -/
structure Door (w wx : World) : Prop where
  below : Below w.heap.size w wx
  size : w.heap.size + 2 ≤ wx.heap.size
  cP : wx.cell? ⟨w.heap.size, 0, none⟩ = some (.int .i64 0)
  cQ : wx.cell? ⟨w.heap.size + 1, 0, none⟩ = some (.int .i64 0)
  fP : wx.frozen? ⟨w.heap.size, 0, none⟩ = false
  fQ : wx.frozen? ⟨w.heap.size + 1, 0, none⟩ = false

theorem door_init (w : World) (t u : TypeId) : Door w ((w.alloc (.cells #[.int .i64 0] t)).alloc (.cells #[.int .i64 0] u)) where
  below := ((Below.refl _ _).alloc (Nat.le_refl _) _).alloc (by simp) _
  size := by simp
  cP := by simp [go_sem]
  cQ := by simp [go_sem]
  fP := by simp [go_sem]
  fQ := by simp [go_sem]

theorem Door.step {w wx wy : World} (h : Door w wx) (hb : Below wx.heap.size wx wy) : Door w wy where
  below := h.below.trans (hb.mono (by have := h.size; omega))
  size := by have := h.size; have := hb.size; omega
  cP := by rw [hb.cell (by have := h.size; show w.heap.size < _; omega)]; exact h.cP
  cQ := by rw [hb.cell (by have := h.size; show w.heap.size + 1 < _; omega)]; exact h.cQ
  fP := by rw [hb.frozen (by have := h.size; show w.heap.size < _; omega)]; exact h.fP
  fQ := by rw [hb.frozen (by have := h.size; show w.heap.size + 1 < _; omega)]; exact h.fQ

theorem split_parts {l : List UInt8} {b : Bool} {X Y : List UInt8} (h : splitP l = some (b, X, Y)) : l.length ≤ 40 ∧ X.length ≤ 40 ∧ Y.length ≤ 40 ∧ digitsB X = true ∧ Y.all isDig = true := by
  unfold splitP at h
  simp only [] at h
  by_cases h40 : 40 < l.length
  · rw [if_pos h40] at h; cases h
  · rw [if_neg h40] at h
    have hc := cut_len (Lib.trimPrefix l [45]) [46]
    have ht := trim_len l [45]
    by_cases h1 : (!digitsB (Lib.cut (Lib.trimPrefix l [45]) [46]).1) = true
    · rw [if_pos h1] at h; cases h
    · rw [if_neg h1] at h
      by_cases h2 : ((Lib.cut (Lib.trimPrefix l [45]) [46]).2.2 && !digitsB (Lib.cut (Lib.trimPrefix l [45]) [46]).2.1) = true
      · rw [if_pos h2] at h; cases h
      · rw [if_neg h2] at h
        injection h with h
        injection h with hb hXY
        injection hXY with hX hY
        subst hX hY
        refine ⟨by omega, by omega, by omega, by simpa using h1, ?_⟩
        cases hp : (Lib.cut (Lib.trimPrefix l [45]) [46]).2.2
        · have : (Lib.cut (Lib.trimPrefix l [45]) [46]).2.1 = [] := by
            unfold Lib.cut at hp ⊢
            by_cases h3 : 0 ≤ Lib.index (Lib.trimPrefix l [45]) [46]
            · rw [if_pos h3] at hp; cases hp
            · rw [if_neg h3]
          rw [this]; rfl
        · rw [hp] at h2
          have h4 : digitsB (Lib.cut (Lib.trimPrefix l [45]) [46]).2.1 = true := by simpa using h2
          exact (digits_ne h4).1

theorem join' (B x v ph pl qh ql : Nat) (h1 : ph * B + pl = x) (h2 : qh = ph + (pl + v) / B) (h3 : ql = (pl + v) % B) : qh * B + ql = x + v := by
  have h := Nat.div_add_mod (pl + v) B
  rw [← h3] at h
  subst h2
  rw [Nat.add_mul, Nat.mul_comm ((pl + v) / B) B]
  generalize B * ((pl + v) / B) = c at *
  generalize ph * B = d at *
  omega
theorem join_words (u v ph pl qh ql : Nat) (h1 : ph * 18446744073709551616 + pl = u * 65536) (h2 : qh = ph + (pl + v) / 18446744073709551616) (h3 : ql = (pl + v) % 18446744073709551616) :
    qh * 18446744073709551616 + ql = u * 65536 + v := join' _ _ _ _ _ _ _ h1 h2 h3

set_option maxRecDepth 100000 in
set_option maxHeartbeats 8000000 in
theorem read_any (s : ByteArray) (hs : s.size ≤ 140737488351232) (w : World) (hg : Glob w)
    (hErr : tooGreat s.data.toList → ∃ ev, w.cell? ⟨5, 0, none⟩ = some ev ∧ (ev = .nilIface ∨ ∃ te pe, ev = .iface te pe)) :
    Calls Tryz.prog 8 #[.string s] w fun e w' => e = told (readE s.data.toList) ∧ Below w.heap.size w w' := by
  obtain ⟨m, hm⟩ := hg.maxLen
  have hml := World.block_lt_of_cell? w _ hm
  have hsplit := fun w hm => split_any s m w hm hs
  have hmf' := hmf
  have hD := door_init w 2 22
  rcases hp : splitP s.data.toList with _ | ⟨b, X, Y⟩
  · have hE : splitE s.data.toList = gone 2 := by unfold splitE; rw [hp]
    have hR : Hid (told (readE s.data.toList) = pair 0 2) := Lib.hid (by unfold readE; rw [hp]; rfl)
    simp only [hE] at hsplit
    unfold gone at hsplit
    have HS := Lib.hid hsplit
    clear hsplit hE hp hErr
    go_enter_defers Tryz.func8, Tryz.ntmps8
    go_wp2_with fail
    refine (HS.out _ (by rw [hD.below.cell hml]; exact hm)).mono ?_
    rintro e w1 ⟨rfl, d, rfl⟩
    have hD1 := hD.step (below_drewN (Below.refl _ _) d)
    go_wp2_with fail
    refine leaves_cons (f := 27) (args := #[.pointer (some ⟨w.heap.size, 0, none⟩), .pointer (some ⟨w.heap.size + 1, 0, none⟩)]) (by simp) (by simp [go_sem]) ?_
    refine (out_caught _ 27 Tryz.f27 Tryz.func27 rfl rfl rfl w.heap.size ⟨w.heap.size, 0, none⟩ ⟨w.heap.size + 1, 0, none⟩ 0 2 [] (.int .i64 0) _ hD1.cP hD1.cQ (by simp) (by simp) (blk_ne w) hD1.fP hD1.fQ).mono ?_
    rintro e u' w'' ⟨rfl, rfl, hl⟩
    obtain ⟨hb9, _, hp9, hq9⟩ := hl
    simp [Leaves, settle, results, Tryz.results8, go_sem, hp9, hq9]
    exact ⟨hR.out.symm, hD1.below.trans hb9⟩
  · obtain ⟨hl40, hX40, hY40, hXd, hYd⟩ := split_parts hp
    have hE : splitE s.data.toList = .returned (.tuple #[.bool b, .string ⟨X.toArray⟩, .string ⟨Y.toArray⟩]) := by unfold splitE; rw [hp]
    simp only [hE] at hsplit
    have HS := Lib.hid hsplit
    clear hsplit hE
    by_cases hbig : 18446744073709551615 < numL X
    · have hR : Hid (told (readE s.data.toList) = pair 0 10) := Lib.hid (by
        have e : readE s.data.toList = gone 10 := by unfold readE; rw [hp]; exact if_pos hbig
        rw [e]; rfl)
      obtain ⟨ev, hev1, hev2⟩ := hErr ⟨b, X, Y, hp, hbig⟩
      have hevl := World.block_lt_of_cell? w _ hev1
      have hval := fun w hv => value_range X (by omega) hXd hbig w ⟨ev, hv, hev2⟩
      unfold gone at hval
      have HV := Lib.hid hval
      clear hval hErr hbig hp
      go_enter_defers Tryz.func8, Tryz.ntmps8
      go_wp2_with fail
      refine (HS.out _ (by rw [hD.below.cell hml]; exact hm)).mono ?_
      rintro e w1 ⟨rfl, d, rfl⟩
      have hD1 := hD.step (below_drewN (Below.refl _ _) d)
      go_wp2_with fail
      refine (HV.out _ (by rw [hD1.below.cell hevl]; exact hev1)).mono ?_
      rintro e w2 ⟨rfl, hb2⟩
      have hD2 := hD1.step hb2
      go_wp2_with fail
      refine leaves_cons (f := 27) (args := #[.pointer (some ⟨w.heap.size, 0, none⟩), .pointer (some ⟨w.heap.size + 1, 0, none⟩)]) (by simp) (by simp [go_sem]) ?_
      refine (out_caught _ 27 Tryz.f27 Tryz.func27 rfl rfl rfl w.heap.size ⟨w.heap.size, 0, none⟩ ⟨w.heap.size + 1, 0, none⟩ 0 10 [] (.int .i64 0) _ hD2.cP hD2.cQ (by simp) (by simp) (blk_ne w) hD2.fP hD2.fQ).mono ?_
      rintro e u' w'' ⟨rfl, rfl, hl⟩
      obtain ⟨hb9, _, hp9, hq9⟩ := hl
      simp [Leaves, settle, results, Tryz.results8, go_sem, hp9, hq9]
      exact ⟨hR.out.symm, hD2.below.trans hb9⟩
    · have hval := fun w => value_ok X (by omega) hXd (by omega) w
      have hsca := fun w => scaled_any Y (by omega) hYd w
      have hsl : scaledN Y ≤ 65536 := (round_scaled _ (dec17_digits hYd).2.2).2
      have hRE : readE s.data.toList = endQ (numL X * 65536 + scaledN Y) b := by unfold readE; rw [hp]; exact if_neg hbig
      have hul : numL X ≤ 18446744073709551615 := by omega
      generalize scaledN Y = v at *
      generalize numL X = u at *
      have hprod := fun w => product_any u 65536 (by omega) (by omega) w
      obtain ⟨ph, hph⟩ : ∃ ph, ph = u * 65536 / 18446744073709551616 := ⟨_, rfl⟩
      obtain ⟨pl, hpl⟩ : ∃ pl, pl = u * 65536 % 18446744073709551616 := ⟨_, rfl⟩
      rw [← hph, ← hpl] at hprod
      have hpu : ph * 18446744073709551616 + pl = u * 65536 := by omega
      have hplus := fun w => plus_any ph pl v (by omega) (by omega) (by omega) w
      obtain ⟨qh, hqh⟩ : ∃ qh, qh = ph + (pl + v) / 18446744073709551616 := ⟨_, rfl⟩
      obtain ⟨ql, hql⟩ : ∃ ql, ql = (pl + v) % 18446744073709551616 := ⟨_, rfl⟩
      rw [← hqh, ← hql] at hplus
      have hq : qh * 18446744073709551616 + ql = u * 65536 + v := join_words u v ph pl qh ql hpu hqh hql
      have hnum : ∀ w, Calls Tryz.prog 33 #[.agg #[.int .u64 (qh : Int), .int .u64 (ql : Int)], .bool b] w fun e w' => e = readE s.data.toList ∧ Below w.heap.size w w' := by
        intro w
        have h := number_any qh ql (by omega) b w
        rw [show endQ (qh * 18446744073709551616 + ql) b = readE s.data.toList by rw [hRE, hq]] at h
        exact h
      have hcases := endQ_cases (u * 65536 + v) b
      rw [← hRE] at hcases
      unfold agg2 at hprod hplus
      have hR : Hid (readE s.data.toList = readE s.data.toList) := Lib.hid rfl
      obtain ⟨E, hEE⟩ : ∃ E, E = readE s.data.toList := ⟨_, rfl⟩
      rw [← hEE] at hcases hnum ⊢
      have H1 := Lib.hid hval
      have H2 := Lib.hid hsca
      have H3 := Lib.hid hprod
      have H4 := Lib.hid hplus
      have H5 := Lib.hid hnum
      clear hval hsca hprod hplus hnum hR hEE hq hqh hql hpu hph hpl hRE hErr hbig hp hul hsl
      rcases hcases with rfl | ⟨x, rfl⟩
      · unfold gone at H5
        go_enter_defers Tryz.func8, Tryz.ntmps8
        go_wp2_with fail
        refine (HS.out _ (by rw [hD.below.cell hml]; exact hm)).mono ?_
        rintro e w1 ⟨rfl, d, rfl⟩
        have hD1 := hD.step (below_drewN (Below.refl _ _) d)
        go_wp2_with fail
        refine (H1.out _).mono ?_
        rintro e w2 ⟨rfl, hb2⟩
        have hD2 := hD1.step hb2
        go_wp2_with fail
        refine (H3.out _).mono ?_
        rintro e w3 ⟨rfl, hb3⟩
        have hD3 := hD2.step hb3
        clear hb2 hb3 hD hD1 hD2 H1 H3 HS hm hml
        have hD4 : Door w (w3.alloc (.cells #[.int .u64 (ph : Int), .int .u64 (pl : Int)] 58)).drew := hD3.step ((Below.refl _ _).alloc (Nat.le_refl _) _).drew
        go_wp2_with fail
        refine wp_region_orders (by kernel_rfl) (L := [[0, 1, 2, 3, 4, 5, 6, 7], [0, 1, 2, 4, 3, 5, 6, 7], [0, 1, 4, 2, 3, 5, 6, 7], [0, 4, 1, 2, 3, 5, 6, 7], [1, 0, 2, 3, 4, 5, 6, 7], [1, 0, 2, 4, 3, 5, 6, 7], [1, 0, 4, 2, 3, 5, 6, 7], [1, 2, 0, 3, 4, 5, 6, 7], [1, 2, 0, 4, 3, 5, 6, 7], [1, 2, 4, 0, 3, 5, 6, 7], [1, 4, 0, 2, 3, 5, 6, 7], [1, 4, 2, 0, 3, 5, 6, 7], [4, 0, 1, 2, 3, 5, 6, 7], [4, 1, 0, 2, 3, 5, 6, 7], [4, 1, 2, 0, 3, 5, 6, 7]]) (by kernel_rfl) (by kernel_rfl) ?_
        have HD4 := Lib.hid hD4
        clear hD4
        intro l hl
        simp only [List.mem_cons, List.not_mem_nil, or_false] at hl
        rcases hl with rfl | rfl | rfl | rfl | rfl | rfl | rfl | rfl | rfl | rfl | rfl | rfl | rfl | rfl | rfl
        all_goals
          show wpList Tryz.prog _ _ [_, _, _, _, _, _, _, _] _ _
          go_wp2_with fail
          refine (H2.out _).mono ?_
          rintro e w4 ⟨rfl, hb4⟩
          have hD5 := HD4.out.step hb4
          have hz4 := hb4.size
          have hA := hb4.cell (p := ⟨w3.heap.size, 0, none⟩) (by simp)
          have hB := hb4.cell (p := ⟨w3.heap.size, 1, none⟩) (by simp)
          simp [go_sem] at hA hB
          have HD5 := Lib.hid hD5
          clear hD5
          go_wp2_with fail
          refine (H4.out _).mono ?_
          rintro e w5 ⟨rfl, hb5⟩
          have HD6 := Lib.hid (HD5.out.step hb5)
          clear hA hB
          go_wp2_with fail
          refine (H5.out _).mono ?_
          rintro e w6 ⟨rfl, hb6⟩
          have hD7 := HD6.out.step hb6
          have hcP := hD7.cP
          have hcQ := hD7.cQ
          have hfP := hD7.fP
          have hfQ := hD7.fQ
          go_wp2_with fail
          refine leaves_cons (f := 27) (args := #[.pointer (some ⟨w.heap.size, 0, none⟩), .pointer (some ⟨w.heap.size + 1, 0, none⟩)]) (by simp) (by simp [go_sem]) ?_
          refine (out_caught _ 27 Tryz.f27 Tryz.func27 rfl rfl rfl w.heap.size ⟨w.heap.size, 0, none⟩ ⟨w.heap.size + 1, 0, none⟩ 0 10 [] (.int .i64 0) _ hD7.cP hD7.cQ (by simp) (by simp) (blk_ne w) hD7.fP hD7.fQ).mono ?_
          rintro e u' w'' ⟨rfl, rfl, hl⟩
          obtain ⟨hb9, _, hp9, hq9⟩ := hl
          simp [Leaves, settle, results, Tryz.results8, go_sem, hp9, hq9]
          exact ⟨rfl, hD7.below.trans hb9⟩
      · skip
        go_enter_defers Tryz.func8, Tryz.ntmps8
        go_wp2_with fail
        refine (HS.out _ (by rw [hD.below.cell hml]; exact hm)).mono ?_
        rintro e w1 ⟨rfl, d, rfl⟩
        have hD1 := hD.step (below_drewN (Below.refl _ _) d)
        go_wp2_with fail
        refine (H1.out _).mono ?_
        rintro e w2 ⟨rfl, hb2⟩
        have hD2 := hD1.step hb2
        go_wp2_with fail
        refine (H3.out _).mono ?_
        rintro e w3 ⟨rfl, hb3⟩
        have hD3 := hD2.step hb3
        clear hb2 hb3 hD hD1 hD2 H1 H3 HS hm hml
        have hD4 : Door w (w3.alloc (.cells #[.int .u64 (ph : Int), .int .u64 (pl : Int)] 58)).drew := hD3.step ((Below.refl _ _).alloc (Nat.le_refl _) _).drew
        go_wp2_with fail
        refine wp_region_orders (by kernel_rfl) (L := [[0, 1, 2, 3, 4, 5, 6, 7], [0, 1, 2, 4, 3, 5, 6, 7], [0, 1, 4, 2, 3, 5, 6, 7], [0, 4, 1, 2, 3, 5, 6, 7], [1, 0, 2, 3, 4, 5, 6, 7], [1, 0, 2, 4, 3, 5, 6, 7], [1, 0, 4, 2, 3, 5, 6, 7], [1, 2, 0, 3, 4, 5, 6, 7], [1, 2, 0, 4, 3, 5, 6, 7], [1, 2, 4, 0, 3, 5, 6, 7], [1, 4, 0, 2, 3, 5, 6, 7], [1, 4, 2, 0, 3, 5, 6, 7], [4, 0, 1, 2, 3, 5, 6, 7], [4, 1, 0, 2, 3, 5, 6, 7], [4, 1, 2, 0, 3, 5, 6, 7]]) (by kernel_rfl) (by kernel_rfl) ?_
        have HD4 := Lib.hid hD4
        clear hD4
        intro l hl
        simp only [List.mem_cons, List.not_mem_nil, or_false] at hl
        rcases hl with rfl | rfl | rfl | rfl | rfl | rfl | rfl | rfl | rfl | rfl | rfl | rfl | rfl | rfl | rfl
        all_goals
          show wpList Tryz.prog _ _ [_, _, _, _, _, _, _, _] _ _
          go_wp2_with fail
          refine (H2.out _).mono ?_
          rintro e w4 ⟨rfl, hb4⟩
          have hD5 := HD4.out.step hb4
          have hz4 := hb4.size
          have hA := hb4.cell (p := ⟨w3.heap.size, 0, none⟩) (by simp)
          have hB := hb4.cell (p := ⟨w3.heap.size, 1, none⟩) (by simp)
          simp [go_sem] at hA hB
          have HD5 := Lib.hid hD5
          clear hD5
          go_wp2_with fail
          refine (H4.out _).mono ?_
          rintro e w5 ⟨rfl, hb5⟩
          have HD6 := Lib.hid (HD5.out.step hb5)
          clear hA hB
          go_wp2_with fail
          refine (H5.out _).mono ?_
          rintro e w6 ⟨rfl, hb6⟩
          have hD7 := HD6.out.step hb6
          have hcP := hD7.cP
          have hcQ := hD7.cQ
          have hfP := hD7.fP
          have hfQ := hD7.fQ
          go_wp2_with fail
          refine leaves_cons (f := 27) (args := #[.pointer (some ⟨w.heap.size, 0, none⟩), .pointer (some ⟨w.heap.size + 1, 0, none⟩)]) (by simp) (by simp [go_sem]) ?_
          have hb8 := (hD7.below.setCell (p := ⟨w.heap.size, 0, none⟩) (Nat.le_refl _) (.int .i64 x)).setCell (p := ⟨w.heap.size + 1, 0, none⟩) (by simp) (.int .i64 0)
          refine (out_idle _ 27 Tryz.f27 Tryz.func27 rfl rfl rfl w.heap.size ⟨w.heap.size, 0, none⟩ ⟨w.heap.size + 1, 0, none⟩ x (.int .i64 0) _ ?_ ?_ (by simp) (by simp) (blk_ne w) (by simp [hD7.fP]) (by simp [hD7.fQ])).mono ?_
          · rw [World.cell?_setCell_other _ _ _ _ (fun h => blk_ne w h.symm)]; exact World.cell?_setCell_same _ _ _ hD7.cP
          · exact World.cell?_setCell_same _ _ _ (by rw [World.cell?_setCell_other _ _ _ _ (blk_ne w)]; exact hD7.cQ)
          rintro e u' w'' ⟨rfl, rfl, hl⟩
          obtain ⟨hb9, _, hp9, hq9⟩ := hl
          simp [Leaves, settle, results, Tryz.results8, go_sem, hp9, hq9]
          exact ⟨rfl, hb8.trans hb9⟩
end Go.Proofs.YtpodgmibghcjdaaGreatDoor
