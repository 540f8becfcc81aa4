/-
  sfnt.rising: names, one behind the other.
-/
import Derived.Test.YtlpnikolnohcaaaBef
import Derived.Test.YtlpnikolnohcaaaJoinS
namespace Go.Proofs.Ytlpnikolnohcaaa
open Go Go.RowKit

/-- names that are there -/
def TagsZ (w : World) (v : Value) (ts : List (List Int)) : Prop :=
  ∃ A c, v = .slice A ts.length c ∧ ts.length ≤ c ∧ c ≤ 9223372036854775807 ∧ (∀ t ∈ ts, t.length = 4 ∧ AllB t) ∧ (ts ≠ [] → ∃ g off, A = some ⟨g, off, none⟩ ∧ g < w.heap.size ∧ ∀ (i j : Nat) (hi : i < ts.length), j < 4 → w.cell? ⟨g, off + i * 4 + j, none⟩ = some (.int .u8 (ts[i].getD j 0)))

theorem TagsZ.below {w w' : World} {v : Value} {ts : List (List Int)} (h : TagsZ w v ts) (hb : Below w.heap.size w w') : TagsZ w' v ts := by
  obtain ⟨A, c, e, hc, hc2, h4, hx⟩ := h
  refine ⟨A, c, e, hc, hc2, h4, fun hne => ?_⟩
  obtain ⟨g, off, hA, hg, hcell⟩ := hx hne
  have := hb.size
  exact ⟨g, off, hA, by omega, fun i j hi hj => by rw [hb.cell (by exact hg)]; exact hcell i j hi hj⟩

theorem four_of {t : List Int} (h : t.length = 4) : t = [t.getD 0 0, t.getD 1 0, t.getD 2 0, t.getD 3 0] := by
  match t, h with
  | [a, b, c, d], _ => rfl

set_option maxHeartbeats 8000000 in
set_option maxRecDepth 20000 in
theorem rising_any (w : World) (v : Value) (ts : List (List Int)) (hv : TagsZ w v ts) (hl : ts.length ≤ 1000000) :
    Calls Try.prog 59 #[v] w fun e w' => e = .returned (.bool (inOrder ts ts.length)) ∧ Below w.heap.size w w' := by
  have HV := Lib.hid hv
  have HL := Lib.hid hl
  obtain ⟨A, c, rfl, _, _, h4, hcell⟩ := hv
  have H4 := Lib.hid h4
  obtain ⟨N, hN⟩ : ∃ N, N = ts.length := ⟨_, rfl⟩
  have HN := Lib.hid hN
  rw [← hN] at HV hl ⊢
  obtain ⟨R, hR⟩ : ∃ R, R = inOrder ts N := ⟨_, rfl⟩
  have HR := Lib.hid hR
  rw [← hR]
  clear h4 hcell hN hR hl
  go_enter Try.func59, Try.ntmps59
  go_wp2_with fail
  go_loopg [3] N (fun k vi wr => ∃ i : Nat, 1 ≤ i ∧ (i ≤ N ∨ i = 1) ∧ i + k = N + 1 ∧ vi = .int .i64 (i : Int) ∧ inOrder ts i = true ∧ Below w.heap.size w wr)
  case atStart => exact ⟨1, Nat.le_refl _, .inr rfl, by omega, rfl, rfl, Below.refl _ _⟩
  case round =>
    obtain ⟨i, h1, h1b, hik, rfl, hord, hb⟩ := hrel
    have HB := Lib.hid hb
    have HIK := Lib.hid hik
    have HORD := Lib.hid hord
    have H1 := Lib.hid h1
    by_cases hi : i < N
    · have bi : ((i : Int) < (N : Int)) = True := eq_true (by omega)
      have hil : i < ts.length := by have := HN.out; omega
      obtain ⟨A2, c2, e2, _, _, _, hcs⟩ := HV.out.below hb
      injection e2 with e3 e4 e5
      subst e3
      clear e4 e5
      obtain ⟨g, off, rfl, _, hcs⟩ := hcs (by rintro rfl; simp at hil)
      obtain ⟨i1, hi1⟩ : ∃ i1, i1 = i - 1 := ⟨_, rfl⟩
      have qi : IntKind.i64.wrap ((i : Int) - 1) = (i1 : Int) := by rw [IntKind.wrap_i64]; have := HN.out; have := HL.out; omega
      have qn : IntKind.i64.wrap ((i : Int) + 1) = ((i + 1 : Nat) : Int) := by rw [IntKind.wrap_i64]; have := HN.out; have := HL.out; omega
      have j0 : (0 : Int) ≤ (i1 : Int) := Int.natCast_nonneg _
      have jN : (i1 : Int) < (N : Int) := by omega
      have i0 : (0 : Int) ≤ (i : Int) := Int.natCast_nonneg _
      have iN : (i : Int) < (N : Int) := by omega
      have hi1l : i1 < ts.length := by omega
      have hy := four_of (H4.out _ (List.getElem_mem hi1l)).1
      have hx := four_of (H4.out _ (List.getElem_mem hil)).1
      have hyb := (H4.out _ (List.getElem_mem hi1l)).2
      have hxb := (H4.out _ (List.getElem_mem hil)).2
      obtain ⟨y0, hy0⟩ : ∃ z, z = ts[i1].getD 0 0 := ⟨_, rfl⟩
      have yc0 := hcs i1 0 hi1l (by omega)
      rw [← hy0] at yc0 hy
      obtain ⟨y1, hy1⟩ : ∃ z, z = ts[i1].getD 1 0 := ⟨_, rfl⟩
      have yc1 := hcs i1 1 hi1l (by omega)
      rw [← hy1] at yc1 hy
      obtain ⟨y2, hy2⟩ : ∃ z, z = ts[i1].getD 2 0 := ⟨_, rfl⟩
      have yc2 := hcs i1 2 hi1l (by omega)
      rw [← hy2] at yc2 hy
      obtain ⟨y3, hy3⟩ : ∃ z, z = ts[i1].getD 3 0 := ⟨_, rfl⟩
      have yc3 := hcs i1 3 hi1l (by omega)
      rw [← hy3] at yc3 hy
      rw [Nat.add_zero] at yc0
      obtain ⟨x0, hx0⟩ : ∃ z, z = ts[i].getD 0 0 := ⟨_, rfl⟩
      have xc0 := hcs i 0 hil (by omega)
      rw [← hx0] at xc0 hx
      obtain ⟨x1, hx1⟩ : ∃ z, z = ts[i].getD 1 0 := ⟨_, rfl⟩
      have xc1 := hcs i 1 hil (by omega)
      rw [← hx1] at xc1 hx
      obtain ⟨x2, hx2⟩ : ∃ z, z = ts[i].getD 2 0 := ⟨_, rfl⟩
      have xc2 := hcs i 2 hil (by omega)
      rw [← hx2] at xc2 hx
      obtain ⟨x3, hx3⟩ : ∃ z, z = ts[i].getD 3 0 := ⟨_, rfl⟩
      have xc3 := hcs i 3 hil (by omega)
      rw [← hx3] at xc3 hx
      rw [Nat.add_zero] at xc0
      rw [hy] at hyb
      rw [hx] at hxb
      obtain ⟨lt, hlt⟩ : ∃ lt, lt = lessL [y0, y1, y2, y3] [x0, x1, x2, x3] := ⟨_, rfl⟩
      have HBE : Hid (∀ wx, Below wr.heap.size wr wx → Calls Try.prog 53 #[.agg #[.int .u8 y0, .int .u8 y1, .int .u8 y2, .int .u8 y3], .agg #[.int .u8 x0, .int .u8 x1, .int .u8 x2, .int .u8 x3]] wx fun e w' => e = .returned (.bool lt) ∧ Below wx.heap.size wx w') := Lib.hid (fun wx _ => by rw [hlt]; exact before_any wx _ _ hyb hxb rfl rfl)
      have HNX : Hid (inOrder ts (i + 1) = lt) := Lib.hid (by
        rw [inOrder_next, HORD.out, hlt, ← hi1, List.getD_eq_getElem?_getD, List.getD_eq_getElem?_getD, List.getElem?_eq_getElem hi1l, List.getElem?_eq_getElem hil, Option.getD_some, Option.getD_some, ← hy, ← hx]
        simp [show ¬ i = 0 by omega])
      have HIN := Lib.hid hi
      clear hy hx hyb hxb hlt hi1 hi1l hil hi hcs hik hord h1 h1b hb hy0 hy1 hy2 hy3 hx0 hx1 hx2 hx3
      go_upto_region 4 with fail
      cases lt with
      | true =>
        refine wp_region_held_drew (S := fun w' => Below wr.heap.size wr w' ∧ w'.cell? ⟨g, off + i1 * 4, none⟩ = some (.int .u8 y0) ∧ w'.cell? ⟨g, off + i1 * 4 + 1, none⟩ = some (.int .u8 y1) ∧ w'.cell? ⟨g, off + i1 * 4 + 2, none⟩ = some (.int .u8 y2) ∧ w'.cell? ⟨g, off + i1 * 4 + 3, none⟩ = some (.int .u8 y3) ∧ w'.cell? ⟨g, off + i * 4, none⟩ = some (.int .u8 x0) ∧ w'.cell? ⟨g, off + i * 4 + 1, none⟩ = some (.int .u8 x1) ∧ w'.cell? ⟨g, off + i * 4 + 2, none⟩ = some (.int .u8 x2) ∧ w'.cell? ⟨g, off + i * 4 + 3, none⟩ = some (.int .u8 x3)) (by kernel_rfl) (⟨(Below.refl _ wr).drew, yc0, yc1, yc2, yc3, xc0, xc1, xc2, xc3⟩) (fun hH0 => ?_)
        change wpAnyH _ _ _ _ _ 11 #[false, false, false, false, false, false, false, false, false, false, false] _ _
        refine wpAnyH_take (i := 0) (oi := { dst := some 10, op := _, type := _, pos := _, after := _, guard := _ }) (v := ?_) rfl (by kernel_rfl) (by kernel_rfl) (by kernel_rfl) (fun _ _ _ h => h) (Or.inl ⟨by kernel_rfl, ?_⟩) hH0 ?_
        rotate_left
        · (intro w hSw; (try dsimp only at hSw); go_simp; first | done | with_reducible rfl)
        try simp only [Act.put, List.setIfInBounds_toArray, List.set_cons_zero, List.set_cons_succ]
        refine wpAnyH_take (i := 1) (oi := { dst := some 11, op := _, type := _, pos := _, after := _, guard := _ }) (v := ?_) rfl (by kernel_rfl) (by kernel_rfl) (by kernel_rfl) (fun _ _ _ h => h) (Or.inl ⟨by kernel_rfl, ?_⟩) hH0 ?_
        rotate_left
        · (intro w hSw; (try dsimp only at hSw); go_simp; first | done | with_reducible rfl)
        try simp only [Act.put, List.setIfInBounds_toArray, List.set_cons_zero, List.set_cons_succ]
        refine wpAnyH_take (i := 2) (oi := { dst := some 12, op := _, type := _, pos := _, after := _, guard := _ }) (v := ?_) rfl (by kernel_rfl) (by kernel_rfl) (by kernel_rfl) (fun _ _ _ h => h) (Or.inl ⟨by kernel_rfl, ?_⟩) hH0 ?_
        rotate_left
        · (intro w hSw; (try dsimp only at hSw); go_simp; first | done | with_reducible rfl)
        try simp only [Act.put, List.setIfInBounds_toArray, List.set_cons_zero, List.set_cons_succ]
        refine wpAnyH_take (i := 3) (oi := { dst := some 13, op := _, type := _, pos := _, after := _, guard := _ }) (v := ?_) rfl (by kernel_rfl) (by kernel_rfl) (by kernel_rfl) (fun _ _ _ h => h) (Or.inl ⟨by kernel_rfl, ?_⟩) hH0 ?_
        rotate_left
        · (intro w hSw; (try dsimp only at hSw); go_simp; first | done | with_reducible rfl)
        try simp only [Act.put, List.setIfInBounds_toArray, List.set_cons_zero, List.set_cons_succ]
        refine wpAnyH_take (i := 4) (oi := { dst := some 14, op := _, type := _, pos := _, after := _, guard := _ }) (v := ?_) rfl (by kernel_rfl) (by kernel_rfl) (by kernel_rfl) (fun _ _ _ h => h) (Or.inl ⟨by kernel_rfl, ?_⟩) hH0 ?_
        rotate_left
        · (intro w hSw; (try dsimp only at hSw); go_simp; first | done | with_reducible rfl)
        try simp only [Act.put, List.setIfInBounds_toArray, List.set_cons_zero, List.set_cons_succ]
        refine wpAnyH_take (i := 5) (oi := { dst := some 15, op := _, type := _, pos := _, after := _, guard := _ }) (v := ?_) rfl (by kernel_rfl) (by kernel_rfl) (by kernel_rfl) (fun _ _ _ h => h) (Or.inl ⟨by kernel_rfl, ?_⟩) hH0 ?_
        rotate_left
        · (intro w hSw; (try dsimp only at hSw); go_simp; first | done | with_reducible rfl)
        try simp only [Act.put, List.setIfInBounds_toArray, List.set_cons_zero, List.set_cons_succ]
        refine wpAnyH_take (i := 6) (oi := { dst := some 16, op := _, type := _, pos := _, after := _, guard := _ }) (v := ?_) rfl (by kernel_rfl) (by kernel_rfl) (by kernel_rfl) (fun _ _ _ h => h) (Or.inl ⟨by kernel_rfl, ?_⟩) hH0 ?_
        rotate_left
        · (intro w hSw; (try dsimp only at hSw); go_simp; first | done | with_reducible rfl)
        try simp only [Act.put, List.setIfInBounds_toArray, List.set_cons_zero, List.set_cons_succ]
        refine wpAnyH_take (i := 7) (oi := { dst := some 17, op := _, type := _, pos := _, after := _, guard := _ }) (v := ?_) rfl (by kernel_rfl) (by kernel_rfl) (by kernel_rfl) (fun _ _ _ h => h) (Or.inl ⟨by kernel_rfl, ?_⟩) hH0 ?_
        rotate_left
        · (intro w hSw; (try dsimp only at hSw); go_simp; first | done | with_reducible rfl)
        try simp only [Act.put, List.setIfInBounds_toArray, List.set_cons_zero, List.set_cons_succ]
        refine wpAnyH_take (i := 8) (oi := { dst := some 18, op := _, type := _, pos := _, after := _, guard := _ }) (v := ?_) rfl (by kernel_rfl) (by kernel_rfl) (by kernel_rfl) (fun _ _ _ h => h) (Or.inl ⟨by kernel_rfl, ?_⟩) hH0 ?_
        rotate_left
        · (intro w hSw; (try dsimp only at hSw); go_simp; first | done | with_reducible rfl)
        try simp only [Act.put, List.setIfInBounds_toArray, List.set_cons_zero, List.set_cons_succ]
        refine wpAnyH_ready (rs := [9]) (by kernel_rfl) (by simp) ?_
        refine AllReadyH.cons (o := { dst := some 19, op := _, type := _, pos := _, after := _, guard := _ }) rfl (fun K hK => ?_) ?_
        · rw [if_pos (by kernel_rfl)]
          go_simp
          refine (HBE.out _ hH0.1).mono ?_
          rintro e wy ⟨rfl, hby⟩
          refine hK.out _ _ (⟨hH0.1.trans (hby.mono hH0.1.size), cellsAt_below hH0.2.1 hby, cellsAt_below hH0.2.2.1 hby, cellsAt_below hH0.2.2.2.1 hby, cellsAt_below hH0.2.2.2.2.1 hby, cellsAt_below hH0.2.2.2.2.2.1 hby, cellsAt_below hH0.2.2.2.2.2.2.1 hby, cellsAt_below hH0.2.2.2.2.2.2.2.1 hby, cellsAt_below hH0.2.2.2.2.2.2.2.2 hby⟩) (fun hH1 => ?_)
          clear hK K
          try simp only [List.setIfInBounds_toArray, List.set_cons_zero, List.set_cons_succ]
          refine wpAnyH_take (i := 10) (oi := { dst := some 20, op := _, type := _, pos := _, after := _, guard := _ }) (v := ?_) rfl (by kernel_rfl) (by kernel_rfl) (by kernel_rfl) (fun _ _ _ h => h) (Or.inl ⟨by kernel_rfl, ?_⟩) hH1 ?_
          rotate_left
          · (intro w hSw; (try dsimp only at hSw); go_simp; first | done | with_reducible rfl)
          try simp only [Act.put, List.setIfInBounds_toArray, List.set_cons_zero, List.set_cons_succ]
          refine wpAnyH_done (by kernel_rfl) ?_ _
          have HBN := Lib.hid (HB.out.trans (hH1.1.mono HB.out.size))
          clear yc0 yc1 yc2 yc3 xc0 xc1 xc2 xc3
          go_wp2_with fail
          go_roundg (gk - 1)
          case measure => have := HIK.out; have := HIN.out; omega
          case rel => exact ⟨i + 1, by omega, .inl (by have := HIN.out; omega), by have := HIK.out; have := HIN.out; omega, rfl, HNX.out, HBN.out⟩
        exact AllReadyH.nil
      | false =>
        refine wp_region_held_drew (S := fun w' => Below wr.heap.size wr w' ∧ w'.cell? ⟨g, off + i1 * 4, none⟩ = some (.int .u8 y0) ∧ w'.cell? ⟨g, off + i1 * 4 + 1, none⟩ = some (.int .u8 y1) ∧ w'.cell? ⟨g, off + i1 * 4 + 2, none⟩ = some (.int .u8 y2) ∧ w'.cell? ⟨g, off + i1 * 4 + 3, none⟩ = some (.int .u8 y3) ∧ w'.cell? ⟨g, off + i * 4, none⟩ = some (.int .u8 x0) ∧ w'.cell? ⟨g, off + i * 4 + 1, none⟩ = some (.int .u8 x1) ∧ w'.cell? ⟨g, off + i * 4 + 2, none⟩ = some (.int .u8 x2) ∧ w'.cell? ⟨g, off + i * 4 + 3, none⟩ = some (.int .u8 x3)) (by kernel_rfl) (⟨(Below.refl _ wr).drew, yc0, yc1, yc2, yc3, xc0, xc1, xc2, xc3⟩) (fun hH0 => ?_)
        change wpAnyH _ _ _ _ _ 11 #[false, false, false, false, false, false, false, false, false, false, false] _ _
        refine wpAnyH_take (i := 0) (oi := { dst := some 10, op := _, type := _, pos := _, after := _, guard := _ }) (v := ?_) rfl (by kernel_rfl) (by kernel_rfl) (by kernel_rfl) (fun _ _ _ h => h) (Or.inl ⟨by kernel_rfl, ?_⟩) hH0 ?_
        rotate_left
        · (intro w hSw; (try dsimp only at hSw); go_simp; first | done | with_reducible rfl)
        try simp only [Act.put, List.setIfInBounds_toArray, List.set_cons_zero, List.set_cons_succ]
        refine wpAnyH_take (i := 1) (oi := { dst := some 11, op := _, type := _, pos := _, after := _, guard := _ }) (v := ?_) rfl (by kernel_rfl) (by kernel_rfl) (by kernel_rfl) (fun _ _ _ h => h) (Or.inl ⟨by kernel_rfl, ?_⟩) hH0 ?_
        rotate_left
        · (intro w hSw; (try dsimp only at hSw); go_simp; first | done | with_reducible rfl)
        try simp only [Act.put, List.setIfInBounds_toArray, List.set_cons_zero, List.set_cons_succ]
        refine wpAnyH_take (i := 2) (oi := { dst := some 12, op := _, type := _, pos := _, after := _, guard := _ }) (v := ?_) rfl (by kernel_rfl) (by kernel_rfl) (by kernel_rfl) (fun _ _ _ h => h) (Or.inl ⟨by kernel_rfl, ?_⟩) hH0 ?_
        rotate_left
        · (intro w hSw; (try dsimp only at hSw); go_simp; first | done | with_reducible rfl)
        try simp only [Act.put, List.setIfInBounds_toArray, List.set_cons_zero, List.set_cons_succ]
        refine wpAnyH_take (i := 3) (oi := { dst := some 13, op := _, type := _, pos := _, after := _, guard := _ }) (v := ?_) rfl (by kernel_rfl) (by kernel_rfl) (by kernel_rfl) (fun _ _ _ h => h) (Or.inl ⟨by kernel_rfl, ?_⟩) hH0 ?_
        rotate_left
        · (intro w hSw; (try dsimp only at hSw); go_simp; first | done | with_reducible rfl)
        try simp only [Act.put, List.setIfInBounds_toArray, List.set_cons_zero, List.set_cons_succ]
        refine wpAnyH_take (i := 4) (oi := { dst := some 14, op := _, type := _, pos := _, after := _, guard := _ }) (v := ?_) rfl (by kernel_rfl) (by kernel_rfl) (by kernel_rfl) (fun _ _ _ h => h) (Or.inl ⟨by kernel_rfl, ?_⟩) hH0 ?_
        rotate_left
        · (intro w hSw; (try dsimp only at hSw); go_simp; first | done | with_reducible rfl)
        try simp only [Act.put, List.setIfInBounds_toArray, List.set_cons_zero, List.set_cons_succ]
        refine wpAnyH_take (i := 5) (oi := { dst := some 15, op := _, type := _, pos := _, after := _, guard := _ }) (v := ?_) rfl (by kernel_rfl) (by kernel_rfl) (by kernel_rfl) (fun _ _ _ h => h) (Or.inl ⟨by kernel_rfl, ?_⟩) hH0 ?_
        rotate_left
        · (intro w hSw; (try dsimp only at hSw); go_simp; first | done | with_reducible rfl)
        try simp only [Act.put, List.setIfInBounds_toArray, List.set_cons_zero, List.set_cons_succ]
        refine wpAnyH_take (i := 6) (oi := { dst := some 16, op := _, type := _, pos := _, after := _, guard := _ }) (v := ?_) rfl (by kernel_rfl) (by kernel_rfl) (by kernel_rfl) (fun _ _ _ h => h) (Or.inl ⟨by kernel_rfl, ?_⟩) hH0 ?_
        rotate_left
        · (intro w hSw; (try dsimp only at hSw); go_simp; first | done | with_reducible rfl)
        try simp only [Act.put, List.setIfInBounds_toArray, List.set_cons_zero, List.set_cons_succ]
        refine wpAnyH_take (i := 7) (oi := { dst := some 17, op := _, type := _, pos := _, after := _, guard := _ }) (v := ?_) rfl (by kernel_rfl) (by kernel_rfl) (by kernel_rfl) (fun _ _ _ h => h) (Or.inl ⟨by kernel_rfl, ?_⟩) hH0 ?_
        rotate_left
        · (intro w hSw; (try dsimp only at hSw); go_simp; first | done | with_reducible rfl)
        try simp only [Act.put, List.setIfInBounds_toArray, List.set_cons_zero, List.set_cons_succ]
        refine wpAnyH_take (i := 8) (oi := { dst := some 18, op := _, type := _, pos := _, after := _, guard := _ }) (v := ?_) rfl (by kernel_rfl) (by kernel_rfl) (by kernel_rfl) (fun _ _ _ h => h) (Or.inl ⟨by kernel_rfl, ?_⟩) hH0 ?_
        rotate_left
        · (intro w hSw; (try dsimp only at hSw); go_simp; first | done | with_reducible rfl)
        try simp only [Act.put, List.setIfInBounds_toArray, List.set_cons_zero, List.set_cons_succ]
        refine wpAnyH_ready (rs := [9]) (by kernel_rfl) (by simp) ?_
        refine AllReadyH.cons (o := { dst := some 19, op := _, type := _, pos := _, after := _, guard := _ }) rfl (fun K hK => ?_) ?_
        · rw [if_pos (by kernel_rfl)]
          go_simp
          refine (HBE.out _ hH0.1).mono ?_
          rintro e wy ⟨rfl, hby⟩
          refine hK.out _ _ (⟨hH0.1.trans (hby.mono hH0.1.size), cellsAt_below hH0.2.1 hby, cellsAt_below hH0.2.2.1 hby, cellsAt_below hH0.2.2.2.1 hby, cellsAt_below hH0.2.2.2.2.1 hby, cellsAt_below hH0.2.2.2.2.2.1 hby, cellsAt_below hH0.2.2.2.2.2.2.1 hby, cellsAt_below hH0.2.2.2.2.2.2.2.1 hby, cellsAt_below hH0.2.2.2.2.2.2.2.2 hby⟩) (fun hH1 => ?_)
          clear hK K
          try simp only [List.setIfInBounds_toArray, List.set_cons_zero, List.set_cons_succ]
          refine wpAnyH_take (i := 10) (oi := { dst := some 20, op := _, type := _, pos := _, after := _, guard := _ }) (v := ?_) rfl (by kernel_rfl) (by kernel_rfl) (by kernel_rfl) (fun _ _ _ h => h) (Or.inl ⟨by kernel_rfl, ?_⟩) hH1 ?_
          rotate_left
          · (intro w hSw; (try dsimp only at hSw); go_simp; first | done | with_reducible rfl)
          try simp only [Act.put, List.setIfInBounds_toArray, List.set_cons_zero, List.set_cons_succ]
          refine wpAnyH_done (by kernel_rfl) ?_ _
          have HBN := Lib.hid (HB.out.trans (hH1.1.mono HB.out.size))
          have HF : Hid (R = false) := Lib.hid (by rw [HR.out]; have h := inOrder_less ts (i + 1) (N - (i + 1)) HNX.out; rwa [show i + 1 + (N - (i + 1)) = N by have := HIN.out; omega] at h)
          clear yc0 yc1 yc2 yc3 xc0 xc1 xc2 xc3
          go_wp2_with fail
          go_ret
          exact ⟨by rw [HF.out]; rfl, HBN.out⟩
        exact AllReadyH.nil
    · have bi : ((i : Int) < (N : Int)) = False := eq_false (by omega)
      have HT : Hid (R = true) := Lib.hid (by
        rw [HR.out]
        rcases h1b with h | h
        · rw [show N = i by omega]; exact hord
        · rcases Nat.eq_zero_or_pos N with h0 | h0
          · rw [h0]; rfl
          · rw [show N = i by omega]; exact hord)
      clear hi hik hord hb h1 h1b
      go_wp2_with fail
      go_ret
      exact ⟨by rw [HT.out]; rfl, HB.out⟩
end Go.Proofs.Ytlpnikolnohcaaa
