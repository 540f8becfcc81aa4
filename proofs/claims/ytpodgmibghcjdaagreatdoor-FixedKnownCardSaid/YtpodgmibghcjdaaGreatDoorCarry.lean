/-
  The document's long numbers: plus, plusOne, double.
-/
import Derived.Test.YtpodgmibghcjdaaGreatDoorLong
namespace Go.Proofs.YtpodgmibghcjdaaGreatDoor
open Go Go.RowKit

theorem low16u (Y : Nat) (h : Y < 4294967296) : bits BinOp.and IntKind.u32 (Y : Int) 65535 = ((Y % 65536 : Nat) : Int) := by
  have e := u32_and_nat Y 65535 h (by omega)
  rw [show ((65535 : Nat) : Int) = 65535 from rfl] at e
  rw [e, show Y &&& 65535 = Y % 65536 from Nat.and_two_pow_sub_one_eq_mod Y 16]

/-- at the head of each round of a function that carries -/
def CarryRel (w : World) (l : List Nat) (N m c0 : Nat) (k : Nat) (vo vc vi : Value) (wr : World) : Prop :=
  ∃ ds c, OwnD w.heap.size wr vo ds ∧ Below w.heap.size w wr ∧ vc = .int .u32 ((c : Nat) : Int) ∧ c < 65536 ∧ vi = .int .i64 ((ds.length : Nat) : Int) ∧ ds.length + k = N ∧
    longN ds + 65536 ^ ds.length * c = m * longN (l.take ds.length) + c0

theorem carry_step {l ds : List Nat} {c m c0 : Nat} (h : longN ds + 65536 ^ ds.length * c = m * longN (l.take ds.length) + c0) (hl : ds.length < l.length) :
    longN (ds ++ [(m * l[ds.length] + c) % 65536]) + 65536 ^ (ds ++ [(m * l[ds.length] + c) % 65536]).length * ((m * l[ds.length] + c) / 65536) = m * longN (l.take (ds ++ [(m * l[ds.length] + c) % 65536]).length) + c0 := by
  rw [longN_append, List.length_append, List.length_singleton, List.take_succ_eq_append_getElem hl, longN_append, Nat.pow_succ, List.length_take, Nat.min_eq_left (Nat.le_of_lt hl)]
  generalize l[ds.length] = d at *
  generalize 65536 ^ ds.length = P at *
  have e1 : longN [(m * d + c) % 65536] = (m * d + c) % 65536 := by simp [longN]
  have e2 : longN [d] = d := by simp [longN]
  rw [e1, e2, Nat.mul_assoc P 65536, Nat.add_assoc, ← Nat.mul_add, Nat.add_comm ((m * d + c) % 65536), Nat.div_add_mod, Nat.mul_add, Nat.mul_add, ← Nat.mul_assoc, ← Nat.mul_assoc, Nat.mul_comm P m]
  omega

set_option maxHeartbeats 1000000 in
set_option maxRecDepth 20000 in
theorem refPlus_any (v : Value) (l : List Nat) (b : Nat) (w : World) (h : LongR w v l) (hb0 : b < 65536) (h5 : l.length + 1 ≤ 100000) :
    Calls Tryz.prog 48 #[v, .int .u32 b] w fun e w' => ∃ v' l', e = .returned v' ∧ LongR w' v' l' ∧ longN l' = longN l + b ∧ l'.length ≤ l.length + 1 ∧ Below w.heap.size w w' := by
  obtain ⟨i0, hi, hz0, hz1, hz2⟩ := info_parts infoU32
  obtain ⟨A, cap, rfl, hcap, hcap2, hx⟩ := h.at_
  have HX := Lib.hid hx
  have HH := Lib.hid h
  obtain ⟨N, hN⟩ : ∃ N, N = l.length := ⟨_, rfl⟩
  rw [← hN] at hcap h5
  have HN := Lib.hid hN
  rw [← hN]
  clear hx h hN
  go_enter Tryz.func48, Tryz.ntmps48
  go_wp2_with fail
  go_loopg [1, 5, 6] N (fun k vc vo vi wr => CarryRel w l N 1 b k vo vc vi wr)
  case atStart => exact ⟨[], b, OwnD.nil _ _, Below.refl _ _, rfl, by omega, rfl, by simp, by simp [longN]⟩
  case round =>
    obtain ⟨ds, c, ho, hb, rfl, hc, rfl, hk, hv⟩ := hrel
    obtain ⟨L, hL⟩ : ∃ L, L = ds.length := ⟨_, rfl⟩
    have hd := Lib.hid ho.2
    have hown := ho.1
    have HV := Lib.hid hv
    have HL := Lib.hid hL
    have hz := hb.size
    have hcI : (c : Int) ≤ 65535 := by omega
    rw [← hL] at hk hown
    rw [← hL]
    have HOW := Lib.hid hown
    clear hv ho hL hown
    by_cases h0 : gk = 0
    · have hLN : (L : Int) = N := by omega
      obtain rfl : L = N := by omega
      clear hLN
      go_wp2_with (at_builtin; refine wpList_append_own _ rfl _ _ 70 rfl w.heap.size 68 i0 (.int .u32 0) 1 4 Tryz.underlying70 hi hz0 hz1 hz2 rfl (by decide) _ _ _ rfl (HOW.out.alloc _) ⟨wr.heap.size, 0, none⟩ 1 1 [.int .u32 (c : Int)] rfl rfl one_cell (fun u hu => by simp at hu; subst hu; rfl) (by unfold maxLen; omega) (by omega) (by simp; omega) ?_)
      intro v' w2 hown' hgrow _
      have hb2 : Below w.heap.size w w2 := (hb.alloc (by omega) _).grown hgrow (by simp; omega) (fun k hk => (HOW.out.lt k hk).1)
      have HP : Hid (LongR w2 v' (ds ++ [c])) := by
        refine OwnD.long (B := w.heap.size) (OwnD.push hd.out hc ?_) (by simp [← HL.out]; omega)
        rw [← HL.out]; exact hown'
      clear hown' hgrow hb
      go_wp2_with (go_at_call 73; refine (trim_any _ _ _ HP.out).mono ?_; rintro e w' ⟨rfl, v', l', rfl, hl1, hl2, hl3⟩)
      go_ret
      refine ⟨_, l', rfl, hl1, ?_, by simp [← HL.out] at hl3; omega, hb2⟩
      rw [hl2, longN_append]
      have hv := HV.out
      rw [← HL.out] at hv ⊢
      rw [List.take_of_length_le (by have := HN.out; omega)] at hv
      simp only [longN, Nat.mul_zero, Nat.add_zero]
      omega
    · have hLN : L < N := by omega
      obtain ⟨g, rfl, hg, hcell⟩ := HX.out (by intro e; have := HN.out; rw [e] at this; simp at this; omega)
      have hLl : L < l.length := by have := HN.out; omega
      obtain ⟨d, hd2⟩ : ∃ d, d = l[L] := ⟨_, rfl⟩
      have hcd : wr.cell? ⟨g, L, none⟩ = some (.int .u32 (d : Int)) := by rw [hb.cell hg, hd2]; exact hcell L hLl
      have hdd : d < 65536 := by rw [hd2]; exact HH.out.dig _ (List.getElem_mem _)
      have hdI : (d : Int) ≤ 65535 := by omega
      obtain ⟨x, hx⟩ : ∃ x, x = (d + c) % 65536 := ⟨_, rfl⟩
      obtain ⟨c2, hc2⟩ : ∃ c2, c2 = (d + c) / 65536 := ⟨_, rfl⟩
      have hE : bits BinOp.and IntKind.u32 ((d : Int) + (c : Int)) 65535 = (x : Int) := by
        have := low16u (d + c) (by omega)
        rw [hx]; simpa using this
      have hr : ((d : Int) + (c : Int)) / 65536 = (c2 : Int) := by omega
      have hx2 : x < 65536 := by omega
      have hxI : (x : Int) ≤ 65535 := by omega
      have hc3 : c2 < 65536 := by omega
      have hst := carry_step HV.out (by rw [← HL.out]; exact hLl)
      have e1 : 1 * l[ds.length]'(by rw [← HL.out]; exact hLl) + c = d + c := by
        simp only [← HL.out, ← hd2]; omega
      rw [e1, ← hx, ← hc2] at hst
      have HST := Lib.hid hst
      clear hst e1 hx hc2 hd2 hcell
      go_wp2_with (at_builtin; refine wpList_append_own _ rfl _ _ 70 rfl w.heap.size 68 i0 (.int .u32 0) 1 4 Tryz.underlying70 hi hz0 hz1 hz2 rfl (by decide) _ _ _ rfl (HOW.out.alloc _) ⟨wr.heap.size, 0, none⟩ 1 1 [.int .u32 (x : Int)] rfl rfl one_cell (fun u hu => by simp at hu; subst hu; rfl) (by unfold maxLen; omega) (by omega) (by simp; omega) ?_)
      intro v' w2 hown' hgrow _
      have hb2 : Below w.heap.size w w2 := (hb.alloc (by omega) _).grown hgrow (by simp; omega) (fun k hk => (HOW.out.lt k hk).1)
      have HP : Hid (OwnD w.heap.size w2 v' (ds ++ [x])) := by
        refine OwnD.push hd.out hx2 ?_
        rw [← HL.out]; exact hown'
      clear hown' hgrow hb hcd
      go_wp2
      go_roundg (gk - 1)
      case measure => omega
      case rel =>
        have hL := HL.out
        exact ⟨ds ++ [x], c2, HP.out, hb2, rfl, hc3, by simp [← hL], by simp; omega, HST.out⟩

set_option maxHeartbeats 1000000 in
set_option maxRecDepth 20000 in
theorem refDouble_any (v : Value) (l : List Nat) (b : Nat) (w : World) (h : LongR w v l) (hb0 : b < 65536) (h5 : l.length + 1 ≤ 100000) :
    Calls Tryz.prog 52 #[v, .int .u32 b] w fun e w' => ∃ v' l', e = .returned v' ∧ LongR w' v' l' ∧ longN l' = 2 * longN l + b ∧ l'.length ≤ l.length + 1 ∧ Below w.heap.size w w' := by
  obtain ⟨i0, hi, hz0, hz1, hz2⟩ := info_parts infoU32
  obtain ⟨A, cap, rfl, hcap, hcap2, hx⟩ := h.at_
  have HX := Lib.hid hx
  have HH := Lib.hid h
  obtain ⟨N, hN⟩ : ∃ N, N = l.length := ⟨_, rfl⟩
  rw [← hN] at hcap h5
  have HN := Lib.hid hN
  rw [← hN]
  clear hx h hN
  go_enter Tryz.func52, Tryz.ntmps52
  go_wp2_with fail
  go_loopg [1, 5, 6] N (fun k vc vo vi wr => CarryRel w l N 2 b k vo vc vi wr)
  case atStart => exact ⟨[], b, OwnD.nil _ _, Below.refl _ _, rfl, by omega, rfl, by simp, by simp [longN]⟩
  case round =>
    obtain ⟨ds, c, ho, hb, rfl, hc, rfl, hk, hv⟩ := hrel
    obtain ⟨L, hL⟩ : ∃ L, L = ds.length := ⟨_, rfl⟩
    have hd := Lib.hid ho.2
    have hown := ho.1
    have HV := Lib.hid hv
    have HL := Lib.hid hL
    have hz := hb.size
    have hcI : (c : Int) ≤ 65535 := by omega
    rw [← hL] at hk hown
    rw [← hL]
    have HOW := Lib.hid hown
    clear hv ho hL hown
    by_cases h0 : gk = 0
    · have hLN : (L : Int) = N := by omega
      obtain rfl : L = N := by omega
      clear hLN
      go_wp2_with (at_builtin; refine wpList_append_own _ rfl _ _ 70 rfl w.heap.size 68 i0 (.int .u32 0) 1 4 Tryz.underlying70 hi hz0 hz1 hz2 rfl (by decide) _ _ _ rfl (HOW.out.alloc _) ⟨wr.heap.size, 0, none⟩ 1 1 [.int .u32 (c : Int)] rfl rfl one_cell (fun u hu => by simp at hu; subst hu; rfl) (by unfold maxLen; omega) (by omega) (by simp; omega) ?_)
      intro v' w2 hown' hgrow _
      have hb2 : Below w.heap.size w w2 := (hb.alloc (by omega) _).grown hgrow (by simp; omega) (fun k hk => (HOW.out.lt k hk).1)
      have HP : Hid (LongR w2 v' (ds ++ [c])) := by
        refine OwnD.long (B := w.heap.size) (OwnD.push hd.out hc ?_) (by simp [← HL.out]; omega)
        rw [← HL.out]; exact hown'
      clear hown' hgrow hb
      go_wp2_with (go_at_call 73; refine (trim_any _ _ _ HP.out).mono ?_; rintro e w' ⟨rfl, v', l', rfl, hl1, hl2, hl3⟩)
      go_ret
      refine ⟨_, l', rfl, hl1, ?_, by simp [← HL.out] at hl3; omega, hb2⟩
      rw [hl2, longN_append]
      have hv := HV.out
      rw [← HL.out] at hv ⊢
      rw [List.take_of_length_le (by have := HN.out; omega)] at hv
      simp only [longN, Nat.mul_zero, Nat.add_zero]
      omega
    · have hLN : L < N := by omega
      obtain ⟨g, rfl, hg, hcell⟩ := HX.out (by intro e; have := HN.out; rw [e] at this; simp at this; omega)
      have hLl : L < l.length := by have := HN.out; omega
      obtain ⟨d, hd2⟩ : ∃ d, d = l[L] := ⟨_, rfl⟩
      have hcd : wr.cell? ⟨g, L, none⟩ = some (.int .u32 (d : Int)) := by rw [hb.cell hg, hd2]; exact hcell L hLl
      have hdd : d < 65536 := by rw [hd2]; exact HH.out.dig _ (List.getElem_mem _)
      have hdI : (d : Int) ≤ 65535 := by omega
      obtain ⟨x, hx⟩ : ∃ x, x = (d * 2 + c) % 65536 := ⟨_, rfl⟩
      obtain ⟨c2, hc2⟩ : ∃ c2, c2 = (d * 2 + c) / 65536 := ⟨_, rfl⟩
      have hE : bits BinOp.and IntKind.u32 ((d : Int) * 2 + (c : Int)) 65535 = (x : Int) := by
        have := low16u (d * 2 + c) (by omega)
        rw [hx]; simpa using this
      have hr : ((d : Int) * 2 + (c : Int)) / 65536 = (c2 : Int) := by omega
      have hx2 : x < 65536 := by omega
      have hxI : (x : Int) ≤ 65535 := by omega
      have hc3 : c2 < 65536 := by omega
      have hst := carry_step HV.out (by rw [← HL.out]; exact hLl)
      have e1 : 2 * l[ds.length]'(by rw [← HL.out]; exact hLl) + c = d * 2 + c := by
        simp only [← HL.out, ← hd2]; omega
      rw [e1, ← hx, ← hc2] at hst
      have HST := Lib.hid hst
      clear hst e1 hx hc2 hd2 hcell
      go_wp2_with (at_builtin; refine wpList_append_own _ rfl _ _ 70 rfl w.heap.size 68 i0 (.int .u32 0) 1 4 Tryz.underlying70 hi hz0 hz1 hz2 rfl (by decide) _ _ _ rfl (HOW.out.alloc _) ⟨wr.heap.size, 0, none⟩ 1 1 [.int .u32 (x : Int)] rfl rfl one_cell (fun u hu => by simp at hu; subst hu; rfl) (by unfold maxLen; omega) (by omega) (by simp; omega) ?_)
      intro v' w2 hown' hgrow _
      have hb2 : Below w.heap.size w w2 := (hb.alloc (by omega) _).grown hgrow (by simp; omega) (fun k hk => (HOW.out.lt k hk).1)
      have HP : Hid (OwnD w.heap.size w2 v' (ds ++ [x])) := by
        refine OwnD.push hd.out hx2 ?_
        rw [← HL.out]; exact hown'
      clear hown' hgrow hb hcd
      go_wp2
      go_roundg (gk - 1)
      case measure => omega
      case rel =>
        have hL := HL.out
        exact ⟨ds ++ [x], c2, HP.out, hb2, rfl, hc3, by simp [← hL], by simp; omega, HST.out⟩

set_option maxHeartbeats 1000000 in
set_option maxRecDepth 20000 in
theorem refPlusOne_any (v : Value) (l : List Nat)  (w : World) (h : LongR w v l)  (h5 : l.length + 1 ≤ 100000) :
    Calls Tryz.prog 53 #[v] w fun e w' => ∃ v' l', e = .returned v' ∧ LongR w' v' l' ∧ longN l' = longN l + 1 ∧ l'.length ≤ l.length + 1 ∧ Below w.heap.size w w' := by
  obtain ⟨i0, hi, hz0, hz1, hz2⟩ := info_parts infoU32
  obtain ⟨A, cap, rfl, hcap, hcap2, hx⟩ := h.at_
  have HX := Lib.hid hx
  have HH := Lib.hid h
  obtain ⟨N, hN⟩ : ∃ N, N = l.length := ⟨_, rfl⟩
  rw [← hN] at hcap h5
  have HN := Lib.hid hN
  rw [← hN]
  clear hx h hN
  go_enter Tryz.func53, Tryz.ntmps53
  go_wp2_with fail
  go_loopg [3, 4, 5] N (fun k vo vc vi wr => CarryRel w l N 1 1 k vo vc vi wr)
  case atStart => exact ⟨[], 1, OwnD.nil _ _, Below.refl _ _, rfl, by omega, rfl, by simp, by simp [longN]⟩
  case round =>
    obtain ⟨ds, c, ho, hb, rfl, hc, rfl, hk, hv⟩ := hrel
    obtain ⟨L, hL⟩ : ∃ L, L = ds.length := ⟨_, rfl⟩
    have hd := Lib.hid ho.2
    have hown := ho.1
    have HV := Lib.hid hv
    have HL := Lib.hid hL
    have hz := hb.size
    have hcI : (c : Int) ≤ 65535 := by omega
    rw [← hL] at hk hown
    rw [← hL]
    have HOW := Lib.hid hown
    clear hv ho hL hown
    by_cases h0 : gk = 0
    · have hLN : (L : Int) = N := by omega
      obtain rfl : L = N := by omega
      clear hLN
      go_wp2_with (at_builtin; refine wpList_append_own _ rfl _ _ 70 rfl w.heap.size 68 i0 (.int .u32 0) 1 4 Tryz.underlying70 hi hz0 hz1 hz2 rfl (by decide) _ _ _ rfl (HOW.out.alloc _) ⟨wr.heap.size, 0, none⟩ 1 1 [.int .u32 (c : Int)] rfl rfl one_cell (fun u hu => by simp at hu; subst hu; rfl) (by unfold maxLen; omega) (by omega) (by simp; omega) ?_)
      intro v' w2 hown' hgrow _
      have hb2 : Below w.heap.size w w2 := (hb.alloc (by omega) _).grown hgrow (by simp; omega) (fun k hk => (HOW.out.lt k hk).1)
      have HP : Hid (LongR w2 v' (ds ++ [c])) := by
        refine OwnD.long (B := w.heap.size) (OwnD.push hd.out hc ?_) (by simp [← HL.out]; omega)
        rw [← HL.out]; exact hown'
      clear hown' hgrow hb
      go_wp2_with (go_at_call 73; refine (trim_any _ _ _ HP.out).mono ?_; rintro e w' ⟨rfl, v', l', rfl, hl1, hl2, hl3⟩)
      go_ret
      refine ⟨_, l', rfl, hl1, ?_, by simp [← HL.out] at hl3; omega, hb2⟩
      rw [hl2, longN_append]
      have hv := HV.out
      rw [← HL.out] at hv ⊢
      rw [List.take_of_length_le (by have := HN.out; omega)] at hv
      simp only [longN, Nat.mul_zero, Nat.add_zero]
      omega
    · have hLN : L < N := by omega
      obtain ⟨g, rfl, hg, hcell⟩ := HX.out (by intro e; have := HN.out; rw [e] at this; simp at this; omega)
      have hLl : L < l.length := by have := HN.out; omega
      obtain ⟨d, hd2⟩ : ∃ d, d = l[L] := ⟨_, rfl⟩
      have hcd : wr.cell? ⟨g, L, none⟩ = some (.int .u32 (d : Int)) := by rw [hb.cell hg, hd2]; exact hcell L hLl
      have hdd : d < 65536 := by rw [hd2]; exact HH.out.dig _ (List.getElem_mem _)
      have hdI : (d : Int) ≤ 65535 := by omega
      obtain ⟨x, hx⟩ : ∃ x, x = (d + c) % 65536 := ⟨_, rfl⟩
      obtain ⟨c2, hc2⟩ : ∃ c2, c2 = (d + c) / 65536 := ⟨_, rfl⟩
      have hE : bits BinOp.and IntKind.u32 ((d : Int) + (c : Int)) 65535 = (x : Int) := by
        have := low16u (d + c) (by omega)
        rw [hx]; simpa using this
      have hr : ((d : Int) + (c : Int)) / 65536 = (c2 : Int) := by omega
      have hx2 : x < 65536 := by omega
      have hxI : (x : Int) ≤ 65535 := by omega
      have hc3 : c2 < 65536 := by omega
      have hst := carry_step HV.out (by rw [← HL.out]; exact hLl)
      have e1 : 1 * l[ds.length]'(by rw [← HL.out]; exact hLl) + c = d + c := by
        simp only [← HL.out, ← hd2]; omega
      rw [e1, ← hx, ← hc2] at hst
      have HST := Lib.hid hst
      clear hst e1 hx hc2 hd2 hcell
      go_wp2_with (at_builtin; refine wpList_append_own _ rfl _ _ 70 rfl w.heap.size 68 i0 (.int .u32 0) 1 4 Tryz.underlying70 hi hz0 hz1 hz2 rfl (by decide) _ _ _ rfl (HOW.out.alloc _) ⟨wr.heap.size, 0, none⟩ 1 1 [.int .u32 (x : Int)] rfl rfl one_cell (fun u hu => by simp at hu; subst hu; rfl) (by unfold maxLen; omega) (by omega) (by simp; omega) ?_)
      intro v' w2 hown' hgrow _
      have hb2 : Below w.heap.size w w2 := (hb.alloc (by omega) _).grown hgrow (by simp; omega) (fun k hk => (HOW.out.lt k hk).1)
      have HP : Hid (OwnD w.heap.size w2 v' (ds ++ [x])) := by
        refine OwnD.push hd.out hx2 ?_
        rw [← HL.out]; exact hown'
      clear hown' hgrow hb hcd
      go_wp2
      go_roundg (gk - 1)
      case measure => omega
      case rel =>
        have hL := HL.out
        exact ⟨ds ++ [x], c2, HP.out, hb2, rfl, hc3, by simp [← hL], by simp; omega, HST.out⟩
end Go.Proofs.YtpodgmibghcjdaaGreatDoor
