/-
  Several texts in one: Rise, Rd, Kind.
-/
import Derived.Test.YtijmponhkabeiaaM1
import Derived.Test.YtijmponhkabeiaaM2
import Derived.Test.YtijmponhkabeiaaM0
import Derived.Handy
namespace Go.Proofs.Ytijmponhkabeiaa
open Go Go.RowKit

/-- names that are there -/
def TagsZ (w : World) (v : Value) (ts : List (List Int)) : Prop :=
  ∃ A c, v = .slice A ts.length c ∧ ts.length ≤ c ∧ c ≤ 9223372036854775807 ∧ (∀ t ∈ ts, t.length = 4 ∧ AllB t) ∧ (ts ≠ [] → ∃ g off, A = some ⟨g, off, none⟩ ∧ g < w.heap.size ∧ ∀ (i j : Nat) (hi : i < ts.length), j < 4 → w.cell? ⟨g, off + i * 4 + j, none⟩ = some (.int .u8 (ts[i].getD j 0)))

theorem TagsZ.below {w w' : World} {v : Value} {ts : List (List Int)} (h : TagsZ w v ts) (hb : Below w.heap.size w w') : TagsZ w' v ts := by
  obtain ⟨A, c, e, hc, hc2, h4, hx⟩ := h
  refine ⟨A, c, e, hc, hc2, h4, fun hne => ?_⟩
  obtain ⟨g, off, hA, hg, hcell⟩ := hx hne
  have := hb.size
  exact ⟨g, off, hA, by omega, fun i j hi hj => by rw [hb.cell (by exact hg)]; exact hcell i j hi hj⟩

theorem four_of {t : List Int} (h : t.length = 4) : t = [t.getD 0 0, t.getD 1 0, t.getD 2 0, t.getD 3 0] := by
  match t, h with
  | [a, b, c, d], _ => rfl

set_option maxHeartbeats 8000000 in
set_option maxRecDepth 20000 in
theorem rising_any (w : World) (v : Value) (ts : List (List Int)) (hv : TagsZ w v ts) (hl : ts.length ≤ 1000000) :
    Calls Try.prog 59 #[v] w fun e w' => e = .returned (.bool (inOrder ts ts.length)) ∧ Below w.heap.size w w' := by
  have HV := Lib.hid hv
  have HL := Lib.hid hl
  obtain ⟨A, c, rfl, _, _, h4, hcell⟩ := hv
  have H4 := Lib.hid h4
  obtain ⟨N, hN⟩ : ∃ N, N = ts.length := ⟨_, rfl⟩
  have HN := Lib.hid hN
  rw [← hN] at HV hl ⊢
  obtain ⟨R, hR⟩ : ∃ R, R = inOrder ts N := ⟨_, rfl⟩
  have HR := Lib.hid hR
  rw [← hR]
  clear h4 hcell hN hR hl
  go_enter Try.func59, Try.ntmps59
  go_wp2_with fail
  go_loopg [3] N (fun k vi wr => ∃ i : Nat, 1 ≤ i ∧ (i ≤ N ∨ i = 1) ∧ i + k = N + 1 ∧ vi = .int .i64 (i : Int) ∧ inOrder ts i = true ∧ Below w.heap.size w wr)
  case atStart => exact ⟨1, Nat.le_refl _, .inr rfl, by omega, rfl, rfl, Below.refl _ _⟩
  case round =>
    obtain ⟨i, h1, h1b, hik, rfl, hord, hb⟩ := hrel
    have HB := Lib.hid hb
    have HIK := Lib.hid hik
    have HORD := Lib.hid hord
    have H1 := Lib.hid h1
    by_cases hi : i < N
    · have bi : ((i : Int) < (N : Int)) = True := eq_true (by omega)
      have hil : i < ts.length := by have := HN.out; omega
      obtain ⟨A2, c2, e2, _, _, _, hcs⟩ := HV.out.below hb
      injection e2 with e3 e4 e5
      subst e3
      clear e4 e5
      obtain ⟨g, off, rfl, _, hcs⟩ := hcs (by rintro rfl; simp at hil)
      obtain ⟨i1, hi1⟩ : ∃ i1, i1 = i - 1 := ⟨_, rfl⟩
      have qi : IntKind.i64.wrap ((i : Int) - 1) = (i1 : Int) := by rw [IntKind.wrap_i64]; have := HN.out; have := HL.out; omega
      have qn : IntKind.i64.wrap ((i : Int) + 1) = ((i + 1 : Nat) : Int) := by rw [IntKind.wrap_i64]; have := HN.out; have := HL.out; omega
      have j0 : (0 : Int) ≤ (i1 : Int) := Int.natCast_nonneg _
      have jN : (i1 : Int) < (N : Int) := by omega
      have i0 : (0 : Int) ≤ (i : Int) := Int.natCast_nonneg _
      have iN : (i : Int) < (N : Int) := by omega
      have hi1l : i1 < ts.length := by omega
      have hy := four_of (H4.out _ (List.getElem_mem hi1l)).1
      have hx := four_of (H4.out _ (List.getElem_mem hil)).1
      have hyb := (H4.out _ (List.getElem_mem hi1l)).2
      have hxb := (H4.out _ (List.getElem_mem hil)).2
      obtain ⟨y0, hy0⟩ : ∃ z, z = ts[i1].getD 0 0 := ⟨_, rfl⟩
      have yc0 := hcs i1 0 hi1l (by omega)
      rw [← hy0] at yc0 hy
      obtain ⟨y1, hy1⟩ : ∃ z, z = ts[i1].getD 1 0 := ⟨_, rfl⟩
      have yc1 := hcs i1 1 hi1l (by omega)
      rw [← hy1] at yc1 hy
      obtain ⟨y2, hy2⟩ : ∃ z, z = ts[i1].getD 2 0 := ⟨_, rfl⟩
      have yc2 := hcs i1 2 hi1l (by omega)
      rw [← hy2] at yc2 hy
      obtain ⟨y3, hy3⟩ : ∃ z, z = ts[i1].getD 3 0 := ⟨_, rfl⟩
      have yc3 := hcs i1 3 hi1l (by omega)
      rw [← hy3] at yc3 hy
      rw [Nat.add_zero] at yc0
      obtain ⟨x0, hx0⟩ : ∃ z, z = ts[i].getD 0 0 := ⟨_, rfl⟩
      have xc0 := hcs i 0 hil (by omega)
      rw [← hx0] at xc0 hx
      obtain ⟨x1, hx1⟩ : ∃ z, z = ts[i].getD 1 0 := ⟨_, rfl⟩
      have xc1 := hcs i 1 hil (by omega)
      rw [← hx1] at xc1 hx
      obtain ⟨x2, hx2⟩ : ∃ z, z = ts[i].getD 2 0 := ⟨_, rfl⟩
      have xc2 := hcs i 2 hil (by omega)
      rw [← hx2] at xc2 hx
      obtain ⟨x3, hx3⟩ : ∃ z, z = ts[i].getD 3 0 := ⟨_, rfl⟩
      have xc3 := hcs i 3 hil (by omega)
      rw [← hx3] at xc3 hx
      rw [Nat.add_zero] at xc0
      rw [hy] at hyb
      rw [hx] at hxb
      obtain ⟨lt, hlt⟩ : ∃ lt, lt = lessL [y0, y1, y2, y3] [x0, x1, x2, x3] := ⟨_, rfl⟩
      have HBE : Hid (∀ wx, Below wr.heap.size wr wx → Calls Try.prog 53 #[.agg #[.int .u8 y0, .int .u8 y1, .int .u8 y2, .int .u8 y3], .agg #[.int .u8 x0, .int .u8 x1, .int .u8 x2, .int .u8 x3]] wx fun e w' => e = .returned (.bool lt) ∧ Below wx.heap.size wx w') := Lib.hid (fun wx _ => by rw [hlt]; exact before_any wx _ _ hyb hxb rfl rfl)
      have HNX : Hid (inOrder ts (i + 1) = lt) := Lib.hid (by
        rw [inOrder_next, HORD.out, hlt, ← hi1, List.getD_eq_getElem?_getD, List.getD_eq_getElem?_getD, List.getElem?_eq_getElem hi1l, List.getElem?_eq_getElem hil, Option.getD_some, Option.getD_some, ← hy, ← hx]
        simp [show ¬ i = 0 by omega])
      have HIN := Lib.hid hi
      clear hy hx hyb hxb hlt hi1 hi1l hil hi hcs hik hord h1 h1b hb hy0 hy1 hy2 hy3 hx0 hx1 hx2 hx3
      go_upto_region 4 with fail
      cases lt with
      | true =>
        refine wp_region_held_drew (S := fun w' => Below wr.heap.size wr w' ∧ w'.cell? ⟨g, off + i1 * 4, none⟩ = some (.int .u8 y0) ∧ w'.cell? ⟨g, off + i1 * 4 + 1, none⟩ = some (.int .u8 y1) ∧ w'.cell? ⟨g, off + i1 * 4 + 2, none⟩ = some (.int .u8 y2) ∧ w'.cell? ⟨g, off + i1 * 4 + 3, none⟩ = some (.int .u8 y3) ∧ w'.cell? ⟨g, off + i * 4, none⟩ = some (.int .u8 x0) ∧ w'.cell? ⟨g, off + i * 4 + 1, none⟩ = some (.int .u8 x1) ∧ w'.cell? ⟨g, off + i * 4 + 2, none⟩ = some (.int .u8 x2) ∧ w'.cell? ⟨g, off + i * 4 + 3, none⟩ = some (.int .u8 x3)) (by kernel_rfl) (⟨(Below.refl _ wr).drew, yc0, yc1, yc2, yc3, xc0, xc1, xc2, xc3⟩) (fun hH0 => ?_)
        change wpAnyH _ _ _ _ _ 11 #[false, false, false, false, false, false, false, false, false, false, false] _ _
        refine wpAnyH_take (i := 0) (oi := { dst := some 10, op := _, type := _, pos := _, after := _, guard := _ }) (v := ?_) rfl (by kernel_rfl) (by kernel_rfl) (by kernel_rfl) (fun _ _ _ h => h) (Or.inl ⟨by kernel_rfl, ?_⟩) hH0 ?_
        rotate_left
        · (intro w hSw; (try dsimp only at hSw); go_simp; first | done | with_reducible rfl)
        try simp only [Act.put, List.setIfInBounds_toArray, List.set_cons_zero, List.set_cons_succ]
        refine wpAnyH_take (i := 1) (oi := { dst := some 11, op := _, type := _, pos := _, after := _, guard := _ }) (v := ?_) rfl (by kernel_rfl) (by kernel_rfl) (by kernel_rfl) (fun _ _ _ h => h) (Or.inl ⟨by kernel_rfl, ?_⟩) hH0 ?_
        rotate_left
        · (intro w hSw; (try dsimp only at hSw); go_simp; first | done | with_reducible rfl)
        try simp only [Act.put, List.setIfInBounds_toArray, List.set_cons_zero, List.set_cons_succ]
        refine wpAnyH_take (i := 2) (oi := { dst := some 12, op := _, type := _, pos := _, after := _, guard := _ }) (v := ?_) rfl (by kernel_rfl) (by kernel_rfl) (by kernel_rfl) (fun _ _ _ h => h) (Or.inl ⟨by kernel_rfl, ?_⟩) hH0 ?_
        rotate_left
        · (intro w hSw; (try dsimp only at hSw); go_simp; first | done | with_reducible rfl)
        try simp only [Act.put, List.setIfInBounds_toArray, List.set_cons_zero, List.set_cons_succ]
        refine wpAnyH_take (i := 3) (oi := { dst := some 13, op := _, type := _, pos := _, after := _, guard := _ }) (v := ?_) rfl (by kernel_rfl) (by kernel_rfl) (by kernel_rfl) (fun _ _ _ h => h) (Or.inl ⟨by kernel_rfl, ?_⟩) hH0 ?_
        rotate_left
        · (intro w hSw; (try dsimp only at hSw); go_simp; first | done | with_reducible rfl)
        try simp only [Act.put, List.setIfInBounds_toArray, List.set_cons_zero, List.set_cons_succ]
        refine wpAnyH_take (i := 4) (oi := { dst := some 14, op := _, type := _, pos := _, after := _, guard := _ }) (v := ?_) rfl (by kernel_rfl) (by kernel_rfl) (by kernel_rfl) (fun _ _ _ h => h) (Or.inl ⟨by kernel_rfl, ?_⟩) hH0 ?_
        rotate_left
        · (intro w hSw; (try dsimp only at hSw); go_simp; first | done | with_reducible rfl)
        try simp only [Act.put, List.setIfInBounds_toArray, List.set_cons_zero, List.set_cons_succ]
        refine wpAnyH_take (i := 5) (oi := { dst := some 15, op := _, type := _, pos := _, after := _, guard := _ }) (v := ?_) rfl (by kernel_rfl) (by kernel_rfl) (by kernel_rfl) (fun _ _ _ h => h) (Or.inl ⟨by kernel_rfl, ?_⟩) hH0 ?_
        rotate_left
        · (intro w hSw; (try dsimp only at hSw); go_simp; first | done | with_reducible rfl)
        try simp only [Act.put, List.setIfInBounds_toArray, List.set_cons_zero, List.set_cons_succ]
        refine wpAnyH_take (i := 6) (oi := { dst := some 16, op := _, type := _, pos := _, after := _, guard := _ }) (v := ?_) rfl (by kernel_rfl) (by kernel_rfl) (by kernel_rfl) (fun _ _ _ h => h) (Or.inl ⟨by kernel_rfl, ?_⟩) hH0 ?_
        rotate_left
        · (intro w hSw; (try dsimp only at hSw); go_simp; first | done | with_reducible rfl)
        try simp only [Act.put, List.setIfInBounds_toArray, List.set_cons_zero, List.set_cons_succ]
        refine wpAnyH_take (i := 7) (oi := { dst := some 17, op := _, type := _, pos := _, after := _, guard := _ }) (v := ?_) rfl (by kernel_rfl) (by kernel_rfl) (by kernel_rfl) (fun _ _ _ h => h) (Or.inl ⟨by kernel_rfl, ?_⟩) hH0 ?_
        rotate_left
        · (intro w hSw; (try dsimp only at hSw); go_simp; first | done | with_reducible rfl)
        try simp only [Act.put, List.setIfInBounds_toArray, List.set_cons_zero, List.set_cons_succ]
        refine wpAnyH_take (i := 8) (oi := { dst := some 18, op := _, type := _, pos := _, after := _, guard := _ }) (v := ?_) rfl (by kernel_rfl) (by kernel_rfl) (by kernel_rfl) (fun _ _ _ h => h) (Or.inl ⟨by kernel_rfl, ?_⟩) hH0 ?_
        rotate_left
        · (intro w hSw; (try dsimp only at hSw); go_simp; first | done | with_reducible rfl)
        try simp only [Act.put, List.setIfInBounds_toArray, List.set_cons_zero, List.set_cons_succ]
        refine wpAnyH_ready (rs := [9]) (by kernel_rfl) (by simp) ?_
        refine AllReadyH.cons (o := { dst := some 19, op := _, type := _, pos := _, after := _, guard := _ }) rfl (fun K hK => ?_) ?_
        · rw [if_pos (by kernel_rfl)]
          go_simp
          refine (HBE.out _ hH0.1).mono ?_
          rintro e wy ⟨rfl, hby⟩
          refine hK.out _ _ (⟨hH0.1.trans (hby.mono hH0.1.size), cellsAt_below hH0.2.1 hby, cellsAt_below hH0.2.2.1 hby, cellsAt_below hH0.2.2.2.1 hby, cellsAt_below hH0.2.2.2.2.1 hby, cellsAt_below hH0.2.2.2.2.2.1 hby, cellsAt_below hH0.2.2.2.2.2.2.1 hby, cellsAt_below hH0.2.2.2.2.2.2.2.1 hby, cellsAt_below hH0.2.2.2.2.2.2.2.2 hby⟩) (fun hH1 => ?_)
          clear hK K
          try simp only [List.setIfInBounds_toArray, List.set_cons_zero, List.set_cons_succ]
          refine wpAnyH_take (i := 10) (oi := { dst := some 20, op := _, type := _, pos := _, after := _, guard := _ }) (v := ?_) rfl (by kernel_rfl) (by kernel_rfl) (by kernel_rfl) (fun _ _ _ h => h) (Or.inl ⟨by kernel_rfl, ?_⟩) hH1 ?_
          rotate_left
          · (intro w hSw; (try dsimp only at hSw); go_simp; first | done | with_reducible rfl)
          try simp only [Act.put, List.setIfInBounds_toArray, List.set_cons_zero, List.set_cons_succ]
          refine wpAnyH_done (by kernel_rfl) ?_ _
          have HBN := Lib.hid (HB.out.trans (hH1.1.mono HB.out.size))
          clear yc0 yc1 yc2 yc3 xc0 xc1 xc2 xc3
          go_wp2_with fail
          go_roundg (gk - 1)
          case measure => have := HIK.out; have := HIN.out; omega
          case rel => exact ⟨i + 1, by omega, .inl (by have := HIN.out; omega), by have := HIK.out; have := HIN.out; omega, rfl, HNX.out, HBN.out⟩
        exact AllReadyH.nil
      | false =>
        refine wp_region_held_drew (S := fun w' => Below wr.heap.size wr w' ∧ w'.cell? ⟨g, off + i1 * 4, none⟩ = some (.int .u8 y0) ∧ w'.cell? ⟨g, off + i1 * 4 + 1, none⟩ = some (.int .u8 y1) ∧ w'.cell? ⟨g, off + i1 * 4 + 2, none⟩ = some (.int .u8 y2) ∧ w'.cell? ⟨g, off + i1 * 4 + 3, none⟩ = some (.int .u8 y3) ∧ w'.cell? ⟨g, off + i * 4, none⟩ = some (.int .u8 x0) ∧ w'.cell? ⟨g, off + i * 4 + 1, none⟩ = some (.int .u8 x1) ∧ w'.cell? ⟨g, off + i * 4 + 2, none⟩ = some (.int .u8 x2) ∧ w'.cell? ⟨g, off + i * 4 + 3, none⟩ = some (.int .u8 x3)) (by kernel_rfl) (⟨(Below.refl _ wr).drew, yc0, yc1, yc2, yc3, xc0, xc1, xc2, xc3⟩) (fun hH0 => ?_)
        change wpAnyH _ _ _ _ _ 11 #[false, false, false, false, false, false, false, false, false, false, false] _ _
        refine wpAnyH_take (i := 0) (oi := { dst := some 10, op := _, type := _, pos := _, after := _, guard := _ }) (v := ?_) rfl (by kernel_rfl) (by kernel_rfl) (by kernel_rfl) (fun _ _ _ h => h) (Or.inl ⟨by kernel_rfl, ?_⟩) hH0 ?_
        rotate_left
        · (intro w hSw; (try dsimp only at hSw); go_simp; first | done | with_reducible rfl)
        try simp only [Act.put, List.setIfInBounds_toArray, List.set_cons_zero, List.set_cons_succ]
        refine wpAnyH_take (i := 1) (oi := { dst := some 11, op := _, type := _, pos := _, after := _, guard := _ }) (v := ?_) rfl (by kernel_rfl) (by kernel_rfl) (by kernel_rfl) (fun _ _ _ h => h) (Or.inl ⟨by kernel_rfl, ?_⟩) hH0 ?_
        rotate_left
        · (intro w hSw; (try dsimp only at hSw); go_simp; first | done | with_reducible rfl)
        try simp only [Act.put, List.setIfInBounds_toArray, List.set_cons_zero, List.set_cons_succ]
        refine wpAnyH_take (i := 2) (oi := { dst := some 12, op := _, type := _, pos := _, after := _, guard := _ }) (v := ?_) rfl (by kernel_rfl) (by kernel_rfl) (by kernel_rfl) (fun _ _ _ h => h) (Or.inl ⟨by kernel_rfl, ?_⟩) hH0 ?_
        rotate_left
        · (intro w hSw; (try dsimp only at hSw); go_simp; first | done | with_reducible rfl)
        try simp only [Act.put, List.setIfInBounds_toArray, List.set_cons_zero, List.set_cons_succ]
        refine wpAnyH_take (i := 3) (oi := { dst := some 13, op := _, type := _, pos := _, after := _, guard := _ }) (v := ?_) rfl (by kernel_rfl) (by kernel_rfl) (by kernel_rfl) (fun _ _ _ h => h) (Or.inl ⟨by kernel_rfl, ?_⟩) hH0 ?_
        rotate_left
        · (intro w hSw; (try dsimp only at hSw); go_simp; first | done | with_reducible rfl)
        try simp only [Act.put, List.setIfInBounds_toArray, List.set_cons_zero, List.set_cons_succ]
        refine wpAnyH_take (i := 4) (oi := { dst := some 14, op := _, type := _, pos := _, after := _, guard := _ }) (v := ?_) rfl (by kernel_rfl) (by kernel_rfl) (by kernel_rfl) (fun _ _ _ h => h) (Or.inl ⟨by kernel_rfl, ?_⟩) hH0 ?_
        rotate_left
        · (intro w hSw; (try dsimp only at hSw); go_simp; first | done | with_reducible rfl)
        try simp only [Act.put, List.setIfInBounds_toArray, List.set_cons_zero, List.set_cons_succ]
        refine wpAnyH_take (i := 5) (oi := { dst := some 15, op := _, type := _, pos := _, after := _, guard := _ }) (v := ?_) rfl (by kernel_rfl) (by kernel_rfl) (by kernel_rfl) (fun _ _ _ h => h) (Or.inl ⟨by kernel_rfl, ?_⟩) hH0 ?_
        rotate_left
        · (intro w hSw; (try dsimp only at hSw); go_simp; first | done | with_reducible rfl)
        try simp only [Act.put, List.setIfInBounds_toArray, List.set_cons_zero, List.set_cons_succ]
        refine wpAnyH_take (i := 6) (oi := { dst := some 16, op := _, type := _, pos := _, after := _, guard := _ }) (v := ?_) rfl (by kernel_rfl) (by kernel_rfl) (by kernel_rfl) (fun _ _ _ h => h) (Or.inl ⟨by kernel_rfl, ?_⟩) hH0 ?_
        rotate_left
        · (intro w hSw; (try dsimp only at hSw); go_simp; first | done | with_reducible rfl)
        try simp only [Act.put, List.setIfInBounds_toArray, List.set_cons_zero, List.set_cons_succ]
        refine wpAnyH_take (i := 7) (oi := { dst := some 17, op := _, type := _, pos := _, after := _, guard := _ }) (v := ?_) rfl (by kernel_rfl) (by kernel_rfl) (by kernel_rfl) (fun _ _ _ h => h) (Or.inl ⟨by kernel_rfl, ?_⟩) hH0 ?_
        rotate_left
        · (intro w hSw; (try dsimp only at hSw); go_simp; first | done | with_reducible rfl)
        try simp only [Act.put, List.setIfInBounds_toArray, List.set_cons_zero, List.set_cons_succ]
        refine wpAnyH_take (i := 8) (oi := { dst := some 18, op := _, type := _, pos := _, after := _, guard := _ }) (v := ?_) rfl (by kernel_rfl) (by kernel_rfl) (by kernel_rfl) (fun _ _ _ h => h) (Or.inl ⟨by kernel_rfl, ?_⟩) hH0 ?_
        rotate_left
        · (intro w hSw; (try dsimp only at hSw); go_simp; first | done | with_reducible rfl)
        try simp only [Act.put, List.setIfInBounds_toArray, List.set_cons_zero, List.set_cons_succ]
        refine wpAnyH_ready (rs := [9]) (by kernel_rfl) (by simp) ?_
        refine AllReadyH.cons (o := { dst := some 19, op := _, type := _, pos := _, after := _, guard := _ }) rfl (fun K hK => ?_) ?_
        · rw [if_pos (by kernel_rfl)]
          go_simp
          refine (HBE.out _ hH0.1).mono ?_
          rintro e wy ⟨rfl, hby⟩
          refine hK.out _ _ (⟨hH0.1.trans (hby.mono hH0.1.size), cellsAt_below hH0.2.1 hby, cellsAt_below hH0.2.2.1 hby, cellsAt_below hH0.2.2.2.1 hby, cellsAt_below hH0.2.2.2.2.1 hby, cellsAt_below hH0.2.2.2.2.2.1 hby, cellsAt_below hH0.2.2.2.2.2.2.1 hby, cellsAt_below hH0.2.2.2.2.2.2.2.1 hby, cellsAt_below hH0.2.2.2.2.2.2.2.2 hby⟩) (fun hH1 => ?_)
          clear hK K
          try simp only [List.setIfInBounds_toArray, List.set_cons_zero, List.set_cons_succ]
          refine wpAnyH_take (i := 10) (oi := { dst := some 20, op := _, type := _, pos := _, after := _, guard := _ }) (v := ?_) rfl (by kernel_rfl) (by kernel_rfl) (by kernel_rfl) (fun _ _ _ h => h) (Or.inl ⟨by kernel_rfl, ?_⟩) hH1 ?_
          rotate_left
          · (intro w hSw; (try dsimp only at hSw); go_simp; first | done | with_reducible rfl)
          try simp only [Act.put, List.setIfInBounds_toArray, List.set_cons_zero, List.set_cons_succ]
          refine wpAnyH_done (by kernel_rfl) ?_ _
          have HBN := Lib.hid (HB.out.trans (hH1.1.mono HB.out.size))
          have HF : Hid (R = false) := Lib.hid (by rw [HR.out]; have h := inOrder_less ts (i + 1) (N - (i + 1)) HNX.out; rwa [show i + 1 + (N - (i + 1)) = N by have := HIN.out; omega] at h)
          clear yc0 yc1 yc2 yc3 xc0 xc1 xc2 xc3
          go_wp2_with fail
          go_ret
          exact ⟨by rw [HF.out]; rfl, HBN.out⟩
        exact AllReadyH.nil
    · have bi : ((i : Int) < (N : Int)) = False := eq_false (by omega)
      have HT : Hid (R = true) := Lib.hid (by
        rw [HR.out]
        rcases h1b with h | h
        · rw [show N = i by omega]; exact hord
        · rcases Nat.eq_zero_or_pos N with h0 | h0
          · rw [h0]; rfl
          · rw [show N = i by omega]; exact hord)
      clear hi hik hord hb h1 h1b
      go_wp2_with fail
      go_ret
      exact ⟨by rw [HT.out]; rfl, HB.out⟩
end Go.Proofs.Ytijmponhkabeiaa

namespace Go.Proofs.Ytijmponhkabeiaa
open Go Go.RowKit

/-- a reader that has these bytes, and isn't bad -/
def RdZ (w : World) (r : Value) (l : List Int) : Prop :=
  ∃ gr gs A c, r = .pointer (some ⟨gr, 0, none⟩) ∧ gr < w.heap.size ∧ gs < w.heap.size ∧ w.cell? ⟨gr, 0, none⟩ = some (.pointer (some ⟨gs, 0, none⟩)) ∧ w.cell? ⟨gr, 1, none⟩ = some (.slice A l.length c) ∧ w.cell? ⟨gs, 0, none⟩ = some (.bool false) ∧ NumZ .u8 w (.slice A l.length c) l ∧ (A = none → c = 0)

theorem RdZ.below {w w' : World} {r : Value} {l : List Int} (h : RdZ w r l) (hb : Below w.heap.size w w') : RdZ w' r l := by
  obtain ⟨gr, gs, A, c, e, h1, h2, h3, h4, h5, h6, h7⟩ := h
  have := hb.size
  exact ⟨gr, gs, A, c, e, by omega, by omega, cellsAt_below h3 hb, cellsAt_below h4 hb, cellsAt_below h5 hb, h6.below hb, h7⟩

set_option maxRecDepth 20000 in
theorem rd_len (w : World) (r : Value) (l : List Int) (hr : RdZ w r l) : Calls Try.prog 68 #[r] w fun e w' => e = .returned (.int .i64 (l.length : Int)) ∧ w = w' := by
  obtain ⟨gr, gs, A, c, rfl, _, _, _, h4, _, _, _⟩ := hr
  obtain ⟨N, hN⟩ : ∃ N, N = l.length := ⟨_, rfl⟩
  rw [← hN] at h4 ⊢
  clear hN
  go_enter Try.func68, Try.ntmps68
  go_wp2_with fail
  go_ret
  exact ⟨rfl, rfl⟩

set_option maxRecDepth 20000 in
theorem rd_bad (w : World) (r : Value) (l : List Int) (hr : RdZ w r l) : Calls Try.prog 73 #[r] w fun e w' => e = .returned (.bool false) ∧ w = w' := by
  obtain ⟨gr, gs, A, c, rfl, _, _, h3, _, h5, _, _⟩ := hr
  go_enter Try.func73, Try.ntmps73
  go_wp2_with fail
  go_ret
  exact ⟨rfl, rfl⟩

set_option maxRecDepth 20000 in
theorem rd_has (w : World) (r : Value) (l : List Int) (hr : RdZ w r l) (hl : l.length ≤ 1000000000) (at_ n sz : Nat) (hs : sz = 1 ∨ sz = 2 ∨ sz = 4) (h : at_ + n * sz ≤ l.length) :
    Calls Try.prog 69 #[r, .int .i64 (at_ : Int), .int .i64 (n : Int), .int .i64 (sz : Int)] w fun e w' => e = .returned (.bool true) ∧ w = w' := by
  obtain ⟨gr, gs, A, c, rfl, _, _, _, h4, _, _, _⟩ := hr
  obtain ⟨N, hN⟩ : ∃ N, N = l.length := ⟨_, rfl⟩
  rw [← hN] at h4 hl h
  obtain ⟨d, hd⟩ : ∃ d, d = N - at_ := ⟨_, rfl⟩
  obtain ⟨q, hq⟩ : ∃ q, q = d / sz := ⟨_, rfl⟩
  have h1 : at_ ≤ N := by omega
  have h2 : n ≤ q := by
    rw [hq, Nat.le_div_iff_mul_le (by omega)]; omega
  have b1 : ((0 : Int) ≤ (at_ : Int)) = True := eq_true (Int.natCast_nonneg _)
  have b2 : ((0 : Int) ≤ (n : Int)) = True := eq_true (Int.natCast_nonneg _)
  have b3 : ((at_ : Int) ≤ (N : Int)) = True := eq_true (by omega)
  have b4 : ((n : Int) ≤ (q : Int)) = True := eq_true (by omega)
  have q1 : IntKind.i64.wrap ((N : Int) - (at_ : Int)) = (d : Int) := by rw [IntKind.wrap_i64]; omega
  have hq2 : (q : Int) ≤ 1000000000 := by
    have : q ≤ d := by rw [hq]; exact Nat.div_le_self _ _
    omega
  have q2 : wrap64 ((d : Int) / (sz : Int)) = (q : Int) := by
    have e : ((d : Int) / (sz : Int)) = ((d / sz : Nat) : Int) := (Int.natCast_ediv d sz).symm
    rw [e, ← hq]; unfold wrap64; omega
  have bz : ((sz : Int) == 0) = false := by simp; omega
  have hz0 : (sz : Int) ≠ 0 := by omega
  clear hN hd hq h hs hl h1 h2 hq2
  go_enter Try.func69, Try.ntmps69
  go_wp2_with fail
  go_ret
  exact ⟨rfl, rfl⟩

/-- its own values, for the walks: the pointer, the bytes' place -/
theorem RdZ.open {w : World} {r : Value} {l : List Int} (h : RdZ w r l) (hne : l ≠ []) : ∃ gr gs g off c, r = .pointer (some ⟨gr, 0, none⟩) ∧ gr < w.heap.size ∧ g < w.heap.size ∧ l.length ≤ c ∧ c ≤ 9223372036854775807 ∧ w.cell? ⟨gr, 0, none⟩ = some (.pointer (some ⟨gs, 0, none⟩)) ∧
    w.cell? ⟨gr, 1, none⟩ = some (.slice (some ⟨g, off, none⟩) l.length c) ∧ ∀ (j : Nat) (h : j < l.length), w.cell? ⟨g, off + j, none⟩ = some (.int .u8 l[j]) := by
  obtain ⟨gr, gs, A, c, e, h1, h2, h3, h4, h5, h6, h7⟩ := h
  have h6' := h6
  obtain ⟨A', c', e', hc1, hc2, _⟩ := h6'
  injection e' with e1 e2 e3
  subst e3
  obtain ⟨g, off, rfl, hg, hc⟩ := h6.cells hne
  exact ⟨gr, gs, g, off, c, e, h1, hg, hc1, hc2, h3, h4, hc⟩

set_option maxRecDepth 20000 in
theorem rd_word (w : World) (r : Value) (l : List Int) (hr : RdZ w r l) (hA : AllB l) (hl : l.length ≤ 1000000000) (at_ : Nat) (h : at_ + 1 < l.length) :
    Calls Try.prog 47 #[r, .int .i64 (at_ : Int)] w fun e w' => e = .returned (.int .u16 (l[at_]'(by omega) * 256 + l[at_ + 1])) ∧ Below w.heap.size w w' := by
  have HH := Lib.hid (rd_has w r l hr hl at_ 1 2 (.inr (.inl rfl)) (by omega))
  obtain ⟨gr, gs, g, off, c, rfl, _, _, _, _, h3, h4, hc⟩ := hr.open (by rintro rfl; simp at h)
  have c1 := hc at_ (by omega)
  have c2 := hc (at_ + 1) h
  have hx2 := hA.get at_ (by omega)
  have hy2 := hA.get (at_ + 1) h
  obtain ⟨x, hx⟩ : ∃ x, x = l[at_]'(by omega) := ⟨_, rfl⟩
  obtain ⟨y, hy⟩ : ∃ y, y = l[at_ + 1] := ⟨_, rfl⟩
  rw [← hx] at c1 hx2 ⊢
  rw [← hy] at c2 hy2 ⊢
  have w1 : IntKind.u16.wrap x = x := by rw [wrap_u16]; omega
  have w2 : IntKind.u16.wrap y = y := by rw [wrap_u16]; omega
  have w3 : IntKind.u16.wrap (x * 256) = x * 256 := by rw [wrap_u16]; omega
  have w4 := or_u16 x y hx2 hy2
  obtain ⟨N, hN⟩ : ∃ N, N = l.length := ⟨_, rfl⟩
  rw [← hN] at h4 h
  obtain ⟨b, hb⟩ : ∃ b, b = at_ + 1 := ⟨_, rfl⟩
  have q1 : IntKind.i64.wrap ((at_ : Int) + 1) = (b : Int) := by rw [IntKind.wrap_i64]; omega
  rw [← hb] at c2
  have a0 : (0 : Int) ≤ (at_ : Int) := Int.natCast_nonneg _
  have aN : (at_ : Int) < (N : Int) := by omega
  have b0 : (0 : Int) ≤ (b : Int) := Int.natCast_nonneg _
  have bN : (b : Int) < (N : Int) := by omega
  clear hN hc hx hy hr hl h hb hx2 hy2 hA
  go_enter Try.func47, Try.ntmps47
  go_wp2_with fail
  refine (HH.out).mono ?_
  rintro e w1 ⟨rfl, rfl⟩
  go_wp2_with fail
  go_region_held3 (fun w' => w'.cell? ⟨gr, 1, none⟩ = some (.slice (some ⟨g, off, none⟩) N c) ∧ w'.cell? ⟨g, off + at_, none⟩ = some (.int .u8 x) ∧ w'.cell? ⟨g, off + b, none⟩ = some (.int .u8 y)) (first | assumption | (go_split_ands; exact ⟨h4, c1, c2⟩) | (go_split_ands; exact ⟨by assumption, by assumption, by assumption⟩)) (fail)
  all_goals go_wp2_with fail
  go_ret
  exact ⟨rfl, (Below.refl _ w).drew⟩
end Go.Proofs.Ytijmponhkabeiaa

namespace Go.Proofs.Ytijmponhkabeiaa
open Go Go.RowKit

/-- a kind, as a value -/
def kindV (lo hi : Int) (sz : Nat) : Value := .agg #[.int .i64 lo, .int .i64 hi, .int .i64 (sz : Int)]

set_option maxRecDepth 20000 in
theorem kindOf_98 (w : World) : Calls Try.prog 78 #[.int .u8 98] w fun e w' => Below w.heap.size w w' ∧ e = .returned (.agg #[.int .i64 (0), .int .i64 255, .int .i64 1]) := by
  go_enter Try.func78, Try.ntmps78
  go_wp2_with fail
  go_returns
  exact ⟨by repeat (first | exact Below.refl _ _ | refine below_alloc _ ?_), rfl⟩

set_option maxRecDepth 20000 in
theorem kindOf_72 (w : World) : Calls Try.prog 78 #[.int .u8 72] w fun e w' => Below w.heap.size w w' ∧ e = .returned (.agg #[.int .i64 (0), .int .i64 65535, .int .i64 2]) := by
  go_enter Try.func78, Try.ntmps78
  go_wp2_with fail
  go_returns
  exact ⟨by repeat (first | exact Below.refl _ _ | refine below_alloc _ ?_), rfl⟩

set_option maxRecDepth 20000 in
theorem kindOf_104 (w : World) : Calls Try.prog 78 #[.int .u8 104] w fun e w' => Below w.heap.size w w' ∧ e = .returned (.agg #[.int .i64 (-32768), .int .i64 32767, .int .i64 2]) := by
  go_enter Try.func78, Try.ntmps78
  go_wp2_with fail
  go_returns
  exact ⟨by repeat (first | exact Below.refl _ _ | refine below_alloc _ ?_), rfl⟩

set_option maxRecDepth 20000 in
theorem kindOf_73 (w : World) : Calls Try.prog 78 #[.int .u8 73] w fun e w' => Below w.heap.size w w' ∧ e = .returned (.agg #[.int .i64 (0), .int .i64 4294967295, .int .i64 4]) := by
  go_enter Try.func78, Try.ntmps78
  go_wp2_with fail
  go_returns
  exact ⟨by repeat (first | exact Below.refl _ _ | refine below_alloc _ ?_), rfl⟩

set_option maxRecDepth 20000 in
theorem kindOf_other (w : World) (c : Nat) (h1 : c ≠ 98) (h2 : c ≠ 72) (h3 : c ≠ 104) (h4 : c ≠ 73) : Calls Try.prog 78 #[.int .u8 (c : Int)] w fun e w' => Below w.heap.size w w' ∧ e = .returned (.agg #[.int .i64 1, .int .i64 0, .int .i64 0]) := by
  have b1 : ((c : Int) == 98) = false := by simp; omega
  have b2 : ((c : Int) == 72) = false := by simp; omega
  have b3 : ((c : Int) == 104) = false := by simp; omega
  have b4 : ((c : Int) == 73) = false := by simp; omega
  clear h1 h2 h3 h4
  go_enter Try.func78, Try.ntmps78
  go_wp2_with fail
  go_returns
  exact ⟨by repeat (first | exact Below.refl _ _ | refine below_alloc _ ?_), rfl⟩

theorem kindOf_any (c : Nat) : ∃ (lo hi : Int) (sz : Nat), sz = sizeC c ∧ sz ≤ 4 ∧ (∀ n, fitsC c n = true ↔ lo ≤ n ∧ n ≤ hi) ∧
    ∀ w, Calls Try.prog 78 #[.int .u8 (c : Int)] w fun e w' => Below w.heap.size w w' ∧ e = .returned (.agg #[.int .i64 lo, .int .i64 hi, .int .i64 (sz : Int)]) := by
  rcases (show c = 98 ∨ c = 72 ∨ c = 104 ∨ c = 73 ∨ (c ≠ 98 ∧ c ≠ 72 ∧ c ≠ 104 ∧ c ≠ 73) by omega) with rfl | rfl | rfl | rfl | ⟨h1, h2, h3, h4⟩
  · exact ⟨0, 255, 1, rfl, by decide, fun n => by simp [fitsC], kindOf_98⟩
  · exact ⟨0, 65535, 2, rfl, by decide, fun n => by simp [fitsC], kindOf_72⟩
  · exact ⟨-32768, 32767, 2, rfl, by decide, fun n => by simp [fitsC], kindOf_104⟩
  · exact ⟨0, 4294967295, 4, rfl, by decide, fun n => by simp [fitsC], kindOf_73⟩
  · exact ⟨1, 0, 0, by simp [sizeC, h1, h2, h3, h4], by decide, fun n => by simp [fitsC, h1, h2, h3, h4]; omega, fun w => kindOf_other w c h1 h2 h3 h4⟩

def WiRel (B : Nat) (w : World) (bs : List Int) (sz : Nat) (n : Int) (k : Nat) (vo vi : Value) (wr : World) : Prop := ∃ (v : Value) (pre : List Int), v = vo ∧ vi = .int .i64 ((k : Int) - 1) ∧ OwnB B wr v (bs ++ pre) ∧ (∀ w0, Below B w0 w → Below B w0 wr) ∧ B ≤ wr.heap.size ∧ pre ++ lowB k n = lowB sz n

set_option maxHeartbeats 8000000 in
set_option maxRecDepth 20000 in
theorem kindPut_any (B : Nat) (w : World) (lo hi : Int) (sz : Nat) (hsz : sz ≤ 4) (v : Value) (bs : List Int) (hv : OwnB B w v bs) (hbs : bs.length ≤ 4000000) (hB : B ≤ w.heap.size) (n : Int) :
    Calls Try.prog 79 #[.agg #[.int .i64 lo, .int .i64 hi, .int .i64 (sz : Int)], v, .int .i64 n] w fun e w' => (∀ w0, Below B w0 w → Below B w0 w') ∧
      ((lo ≤ n ∧ n ≤ hi ∧ ∃ v', e = .returned (.tuple #[v', .bool true]) ∧ OwnB B w' v' (bs ++ lowB sz n)) ∨ (¬ (lo ≤ n ∧ n ≤ hi) ∧ e = .returned (.tuple #[.slice none 0 0, .bool false]))) := by
  have HV := Lib.hid hv
  have HBS := Lib.hid hbs
  have HB := Lib.hid hB
  obtain ⟨P, hPE⟩ : ∃ P : Prop, P = (lo ≤ n ∧ n ≤ hi) := ⟨_, rfl⟩
  by_cases h1 : n < lo
  · have b1 : (n < lo) = True := eq_true h1
    have HN : Hid (¬ (lo ≤ n ∧ n ≤ hi)) := Lib.hid (by omega)
    clear hv hbs hB h1 hPE P
    go_enter Try.func79, Try.ntmps79
    go_wp2_with fail
    go_ret2
    exact ⟨fun w0 h => h.alloc HB.out _, .inr ⟨HN.out, rfl⟩⟩
  · have b1 : (n < lo) = False := eq_false h1
    by_cases h2 : hi < n
    · have b2 : (hi < n) = True := eq_true h2
      have HN : Hid (¬ (lo ≤ n ∧ n ≤ hi)) := Lib.hid (by omega)
      clear hv hbs hB h1 h2 hPE P
      go_enter Try.func79, Try.ntmps79
      go_wp2_with fail
      go_ret2
      exact ⟨fun w0 h => h.alloc HB.out _, .inr ⟨HN.out, rfl⟩⟩
    · have b2 : (hi < n) = False := eq_false h2
      have HN : Hid (lo ≤ n ∧ n ≤ hi) := Lib.hid (by omega)
      have q5 : IntKind.i64.wrap ((sz : Int) - 1) = (sz : Int) - 1 := by rw [IntKind.wrap_i64]; omega
      have HSZ := Lib.hid hsz
      clear hv hbs hB h1 h2 hPE P
      go_enter Try.func79, Try.ntmps79
      go_wp2_with fail
      go_loopg [1, 8] sz (fun k vo vi wr => WiRel B w bs sz n k vo vi wr)
      case atStart => exact ⟨_, [], rfl, rfl, by rw [List.append_nil]; exact ownB_stays HV.out ((Below.refl _ _).alloc (Nat.le_refl _) _), fun w0 h => h.alloc HB.out _, Nat.le_trans HB.out (Nat.le_of_lt (heap_more _ _)), rfl⟩
      case round =>
        obtain ⟨vb, pre, rfl, rfl, howb, hbb, hBw, hpre⟩ := hrel
        have HOB := Lib.hid howb
        have HBB := Lib.hid hbb
        have HBW := Lib.hid hBw
        have HPRE := Lib.hid hpre
        clear howb hbb hBw hpre
        rcases Nat.eq_zero_or_pos gk with h0 | h0
        · subst h0
          have HALL : Hid (OwnB B wr vb (bs ++ lowB sz n)) := Lib.hid (by
            have h1 := HPRE.out
            rw [lowB, List.append_nil] at h1
            rw [← h1]; exact HOB.out)
          go_wp2_with fail
          go_ret2
          exact ⟨HBB.out, .inl ⟨HN.out.1, HN.out.2, _, rfl, HALL.out⟩⟩
        · have hjs : gk ≤ 4 := by
            have h2 := congrArg List.length HPRE.out
            have h4 := HSZ.out
            simp [lowB_len] at h2
            omega
          have HLL : Hid ((bs ++ pre).length ≤ 4000010) := Lib.hid (by
            have h2 := congrArg List.length HPRE.out
            have h3 := HBS.out
            have h4 := HSZ.out
            simp [lowB_len] at h2
            simp; omega)
          rcases (show gk = 1 ∨ gk = 2 ∨ gk = 3 ∨ gk = 4 by omega) with hj | hj | hj | hj
          · have hg1 : ((gk : Int) - 1) = 0 := by omega
            rw [hg1]
            have HJ := Lib.hid hj
            clear hj hjs h0 hg1
            go_wp2_with (at_builtin; refine wp_append_b rfl _ _ rfl B vb (bs ++ pre) rfl (ownB_stays HOB.out ((Below.refl _ _).alloc (Nat.le_refl _) _)) _ [n % 256] rfl (num_new .u8 wr [n % 256] _ (by simp)) (fun n c h => by cases h) (by have := HLL.out; simp only [List.length_cons, List.length_nil]; omega) (Nat.le_trans HBW.out (Nat.le_of_lt (heap_more _ _))) ?_)
            intro v7 w7 how7 hk7
            have HSS : Hid (B ≤ w7.heap.size) := Lib.hid (by
              have h := (hk7 (wr.alloc (.cells #[.int .u8 (n % 256)] 5)) (Below.refl _ _)).size
              have h2 := HBW.out
              rw [heap_plus] at h
              omega)
            have HNB : Hid (WiRel B w bs sz n (gk - 1) v7 (.int .i64 (0 - 1)) w7) := Lib.hid ⟨v7, pre ++ [n % 256], rfl, by rw [HJ.out]; rfl, by simpa using how7, fun w0 h => hk7 _ ((HBB.out w0 h).alloc HBW.out _), HSS.out, by
                have h1 := HPRE.out
                rw [HJ.out] at h1 ⊢
                have e : n % 256 = n / 256 ^ 0 % 256 := by omega
                rw [e, List.append_assoc]
                exact h1⟩
            clear how7 hk7
            go_wp2_with fail
            go_roundg (gk - 1)
            case measure => have := HJ.out; omega
            case rel => exact HNB.out
          · have hg2 : ((gk : Int) - 1) = 1 := by omega
            rw [hg2]
            have HJ := Lib.hid hj
            clear hj hjs h0 hg2
            go_wp2_with (at_builtin; refine wp_append_b rfl _ _ rfl B vb (bs ++ pre) rfl (ownB_stays HOB.out ((Below.refl _ _).alloc (Nat.le_refl _) _)) _ [n / 256 % 256] rfl (num_new .u8 wr [n / 256 % 256] _ (by simp)) (fun n c h => by cases h) (by have := HLL.out; simp only [List.length_cons, List.length_nil]; omega) (Nat.le_trans HBW.out (Nat.le_of_lt (heap_more _ _))) ?_)
            intro v7 w7 how7 hk7
            have HSS : Hid (B ≤ w7.heap.size) := Lib.hid (by
              have h := (hk7 (wr.alloc (.cells #[.int .u8 (n / 256 % 256)] 5)) (Below.refl _ _)).size
              have h2 := HBW.out
              rw [heap_plus] at h
              omega)
            have HNB : Hid (WiRel B w bs sz n (gk - 1) v7 (.int .i64 (1 - 1)) w7) := Lib.hid ⟨v7, pre ++ [n / 256 % 256], rfl, by rw [HJ.out]; rfl, by simpa using how7, fun w0 h => hk7 _ ((HBB.out w0 h).alloc HBW.out _), HSS.out, by
                have h1 := HPRE.out
                rw [HJ.out] at h1 ⊢
                have e : n / 256 % 256 = n / 256 ^ 1 % 256 := by omega
                rw [e, List.append_assoc]
                exact h1⟩
            clear how7 hk7
            go_wp2_with fail
            go_roundg (gk - 1)
            case measure => have := HJ.out; omega
            case rel => exact HNB.out
          · have hg3 : ((gk : Int) - 1) = 2 := by omega
            rw [hg3]
            have HJ := Lib.hid hj
            clear hj hjs h0 hg3
            go_wp2_with (at_builtin; refine wp_append_b rfl _ _ rfl B vb (bs ++ pre) rfl (ownB_stays HOB.out ((Below.refl _ _).alloc (Nat.le_refl _) _)) _ [n / 65536 % 256] rfl (num_new .u8 wr [n / 65536 % 256] _ (by simp)) (fun n c h => by cases h) (by have := HLL.out; simp only [List.length_cons, List.length_nil]; omega) (Nat.le_trans HBW.out (Nat.le_of_lt (heap_more _ _))) ?_)
            intro v7 w7 how7 hk7
            have HSS : Hid (B ≤ w7.heap.size) := Lib.hid (by
              have h := (hk7 (wr.alloc (.cells #[.int .u8 (n / 65536 % 256)] 5)) (Below.refl _ _)).size
              have h2 := HBW.out
              rw [heap_plus] at h
              omega)
            have HNB : Hid (WiRel B w bs sz n (gk - 1) v7 (.int .i64 (2 - 1)) w7) := Lib.hid ⟨v7, pre ++ [n / 65536 % 256], rfl, by rw [HJ.out]; rfl, by simpa using how7, fun w0 h => hk7 _ ((HBB.out w0 h).alloc HBW.out _), HSS.out, by
                have h1 := HPRE.out
                rw [HJ.out] at h1 ⊢
                have e : n / 65536 % 256 = n / 256 ^ 2 % 256 := by omega
                rw [e, List.append_assoc]
                exact h1⟩
            clear how7 hk7
            go_wp2_with fail
            go_roundg (gk - 1)
            case measure => have := HJ.out; omega
            case rel => exact HNB.out
          · have hg4 : ((gk : Int) - 1) = 3 := by omega
            rw [hg4]
            have HJ := Lib.hid hj
            clear hj hjs h0 hg4
            go_wp2_with (at_builtin; refine wp_append_b rfl _ _ rfl B vb (bs ++ pre) rfl (ownB_stays HOB.out ((Below.refl _ _).alloc (Nat.le_refl _) _)) _ [n / 16777216 % 256] rfl (num_new .u8 wr [n / 16777216 % 256] _ (by simp)) (fun n c h => by cases h) (by have := HLL.out; simp only [List.length_cons, List.length_nil]; omega) (Nat.le_trans HBW.out (Nat.le_of_lt (heap_more _ _))) ?_)
            intro v7 w7 how7 hk7
            have HSS : Hid (B ≤ w7.heap.size) := Lib.hid (by
              have h := (hk7 (wr.alloc (.cells #[.int .u8 (n / 16777216 % 256)] 5)) (Below.refl _ _)).size
              have h2 := HBW.out
              rw [heap_plus] at h
              omega)
            have HNB : Hid (WiRel B w bs sz n (gk - 1) v7 (.int .i64 (3 - 1)) w7) := Lib.hid ⟨v7, pre ++ [n / 16777216 % 256], rfl, by rw [HJ.out]; rfl, by simpa using how7, fun w0 h => hk7 _ ((HBB.out w0 h).alloc HBW.out _), HSS.out, by
                have h1 := HPRE.out
                rw [HJ.out] at h1 ⊢
                have e : n / 16777216 % 256 = n / 256 ^ 3 % 256 := by omega
                rw [e, List.append_assoc]
                exact h1⟩
            clear how7 hk7
            go_wp2_with fail
            go_roundg (gk - 1)
            case measure => have := HJ.out; omega
            case rel => exact HNB.out
end Go.Proofs.Ytijmponhkabeiaa
