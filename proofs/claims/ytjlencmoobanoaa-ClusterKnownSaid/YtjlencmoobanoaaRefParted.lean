/-
  The document's Parted and Bounds.
-/
import Derived.Test.YtjlencmoobanoaaRefC
import Derived.Deep.DeepCutAuto
namespace Go.Proofs.Ytjlencmoobanoaa
open Go Go.RowKit

theorem cellsAt_below {w w' : World} {p : Addr} {v : Value} (h : w.cell? p = some v) (hb : Below w.heap.size w w') : w'.cell? p = some v := by
  rw [hb.cell (World.block_lt_of_cell? w _ h)]; exact h

theorem docP_chain (a b : Nat) (jn od : Bool) : docP a b jn od = (if decide (a = 1 ∧ b = 2) = true then false else (if (endsN a || endsN b) = true then true else (if decide (a = 8 ∧ (b = 8 ∨ b = 9 ∨ b = 11 ∨ b = 12)) = true then false else (if decide ((a = 11 ∨ a = 9) ∧ (b = 9 ∨ b = 10)) = true then false else (if decide ((a = 12 ∨ a = 10) ∧ b = 10) = true then false else (if decide (b = 4 ∨ b = 5 ∨ a = 7) = true then false else (if decide (a = 5 ∧ b = 13 ∧ jn = true) = true then false else (if decide (a = 6 ∧ b = 6 ∧ od = true) = true then false else true)))))))) := by
  simp only [docP, decide_eq_true_eq]

theorem if_false_of {R x y : Bool} (h : R = if false = true then x else y) : R = y := by simpa using h

theorem docP_step4 {a b : Nat} {jn od R h : Bool} (hr : R = if decide (a = 1 ∧ b = 2) = true then false else (if (endsN a || endsN b) = true then true else (if decide (a = 8 ∧ (b = 8 ∨ b = 9 ∨ b = 11 ∨ b = 12)) = true then false else (if decide ((a = 11 ∨ a = 9) ∧ (b = 9 ∨ b = 10)) = true then false else (if decide ((a = 12 ∨ a = 10) ∧ b = 10) = true then false else (if decide (b = 4 ∨ b = 5 ∨ a = 7) = true then false else (if decide (a = 5 ∧ b = 13 ∧ jn = true) = true then false else (if decide (a = 6 ∧ b = 6 ∧ od = true) = true then false else true)))))))) (hh : h = decide (a = 1 ∧ b = 2)) : R = if h = true then false else (if (endsN a || endsN b) = true then true else (if decide (a = 8 ∧ (b = 8 ∨ b = 9 ∨ b = 11 ∨ b = 12)) = true then false else (if decide ((a = 11 ∨ a = 9) ∧ (b = 9 ∨ b = 10)) = true then false else (if decide ((a = 12 ∨ a = 10) ∧ b = 10) = true then false else (if decide (b = 4 ∨ b = 5 ∨ a = 7) = true then false else (if decide (a = 5 ∧ b = 13 ∧ jn = true) = true then false else (if decide (a = 6 ∧ b = 6 ∧ od = true) = true then false else true))))))) := by rw [hh]; exact hr

theorem docP_step6 {a b : Nat} {jn od R h : Bool} (hr : R = if (endsN a || endsN b) = true then true else (if decide (a = 8 ∧ (b = 8 ∨ b = 9 ∨ b = 11 ∨ b = 12)) = true then false else (if decide ((a = 11 ∨ a = 9) ∧ (b = 9 ∨ b = 10)) = true then false else (if decide ((a = 12 ∨ a = 10) ∧ b = 10) = true then false else (if decide (b = 4 ∨ b = 5 ∨ a = 7) = true then false else (if decide (a = 5 ∧ b = 13 ∧ jn = true) = true then false else (if decide (a = 6 ∧ b = 6 ∧ od = true) = true then false else true))))))) (hh : h = (endsN a || endsN b)) : R = if h = true then true else (if decide (a = 8 ∧ (b = 8 ∨ b = 9 ∨ b = 11 ∨ b = 12)) = true then false else (if decide ((a = 11 ∨ a = 9) ∧ (b = 9 ∨ b = 10)) = true then false else (if decide ((a = 12 ∨ a = 10) ∧ b = 10) = true then false else (if decide (b = 4 ∨ b = 5 ∨ a = 7) = true then false else (if decide (a = 5 ∧ b = 13 ∧ jn = true) = true then false else (if decide (a = 6 ∧ b = 6 ∧ od = true) = true then false else true)))))) := by rw [hh]; exact hr

theorem docP_step8 {a b : Nat} {jn od R h : Bool} (hr : R = if decide (a = 8 ∧ (b = 8 ∨ b = 9 ∨ b = 11 ∨ b = 12)) = true then false else (if decide ((a = 11 ∨ a = 9) ∧ (b = 9 ∨ b = 10)) = true then false else (if decide ((a = 12 ∨ a = 10) ∧ b = 10) = true then false else (if decide (b = 4 ∨ b = 5 ∨ a = 7) = true then false else (if decide (a = 5 ∧ b = 13 ∧ jn = true) = true then false else (if decide (a = 6 ∧ b = 6 ∧ od = true) = true then false else true)))))) (hh : h = decide (a = 8 ∧ (b = 8 ∨ b = 9 ∨ b = 11 ∨ b = 12))) : R = if h = true then false else (if decide ((a = 11 ∨ a = 9) ∧ (b = 9 ∨ b = 10)) = true then false else (if decide ((a = 12 ∨ a = 10) ∧ b = 10) = true then false else (if decide (b = 4 ∨ b = 5 ∨ a = 7) = true then false else (if decide (a = 5 ∧ b = 13 ∧ jn = true) = true then false else (if decide (a = 6 ∧ b = 6 ∧ od = true) = true then false else true))))) := by rw [hh]; exact hr

theorem docP_step10 {a b : Nat} {jn od R h : Bool} (hr : R = if decide ((a = 11 ∨ a = 9) ∧ (b = 9 ∨ b = 10)) = true then false else (if decide ((a = 12 ∨ a = 10) ∧ b = 10) = true then false else (if decide (b = 4 ∨ b = 5 ∨ a = 7) = true then false else (if decide (a = 5 ∧ b = 13 ∧ jn = true) = true then false else (if decide (a = 6 ∧ b = 6 ∧ od = true) = true then false else true))))) (hh : h = decide ((a = 11 ∨ a = 9) ∧ (b = 9 ∨ b = 10))) : R = if h = true then false else (if decide ((a = 12 ∨ a = 10) ∧ b = 10) = true then false else (if decide (b = 4 ∨ b = 5 ∨ a = 7) = true then false else (if decide (a = 5 ∧ b = 13 ∧ jn = true) = true then false else (if decide (a = 6 ∧ b = 6 ∧ od = true) = true then false else true)))) := by rw [hh]; exact hr

theorem docP_step12 {a b : Nat} {jn od R h : Bool} (hr : R = if decide ((a = 12 ∨ a = 10) ∧ b = 10) = true then false else (if decide (b = 4 ∨ b = 5 ∨ a = 7) = true then false else (if decide (a = 5 ∧ b = 13 ∧ jn = true) = true then false else (if decide (a = 6 ∧ b = 6 ∧ od = true) = true then false else true)))) (hh : h = decide ((a = 12 ∨ a = 10) ∧ b = 10)) : R = if h = true then false else (if decide (b = 4 ∨ b = 5 ∨ a = 7) = true then false else (if decide (a = 5 ∧ b = 13 ∧ jn = true) = true then false else (if decide (a = 6 ∧ b = 6 ∧ od = true) = true then false else true))) := by rw [hh]; exact hr

theorem docP_step14 {a b : Nat} {jn od R h : Bool} (hr : R = if decide (b = 4 ∨ b = 5 ∨ a = 7) = true then false else (if decide (a = 5 ∧ b = 13 ∧ jn = true) = true then false else (if decide (a = 6 ∧ b = 6 ∧ od = true) = true then false else true))) (hh : h = decide (b = 4 ∨ b = 5 ∨ a = 7)) : R = if h = true then false else (if decide (a = 5 ∧ b = 13 ∧ jn = true) = true then false else (if decide (a = 6 ∧ b = 6 ∧ od = true) = true then false else true)) := by rw [hh]; exact hr

theorem docP_step16 {a b : Nat} {jn od R h : Bool} (hr : R = if decide (a = 5 ∧ b = 13 ∧ jn = true) = true then false else (if decide (a = 6 ∧ b = 6 ∧ od = true) = true then false else true)) (hh : h = decide (a = 5 ∧ b = 13 ∧ jn = true)) : R = if h = true then false else (if decide (a = 6 ∧ b = 6 ∧ od = true) = true then false else true) := by rw [hh]; exact hr

theorem docP_step18 {a b : Nat} {od R h : Bool} (hr : R = if decide (a = 6 ∧ b = 6 ∧ od = true) = true then false else true) (hh : h = decide (a = 6 ∧ b = 6 ∧ od = true)) : R = if h = true then false else true := by rw [hh]; exact hr

set_option maxHeartbeats 8000000 in
set_option maxRecDepth 20000 in
theorem refParted_in (T : List (Int × Int × Int)) (hT : TabC T) (l : List Int) (hl : AllR l) (A : Option Addr) (g off cap N : Nat) (hN : N = l.length) (hA : A = some ⟨g, off, none⟩) (w : World) (hcell : ∀ (j : Nat) (h : j < l.length), w.cell? ⟨g, off + j, none⟩ = some (.int .i32 l[j])) (i : Nat) (hi : i < N) (hi1 : 1 ≤ i) (hN2 : N ≤ 1000000) :
    Calls Try.prog 13 #[.slice A N cap, .int .i64 (i : Int)] w fun e w' => e = .returned (.bool (docPre ((clsL T l).take i).reverse ((clsL T l).getD i 0))) ∧ Below w.heap.size w w' := by
  have hJ := fun w (hc : ∀ (j : Nat) (h : j < l.length), w.cell? ⟨g, off + j, none⟩ = some (.int .i32 l[j])) => refJoined_any T hT l hl A g off cap N hN hA w hc i hi hi1 hN2
  have hO := fun w (hc : ∀ (j : Nat) (h : j < l.length), w.cell? ⟨g, off + j, none⟩ = some (.int .i32 l[j])) => refOdd_any T hT l hl A g off cap N hN hA w hc i hi hN2
  obtain ⟨m, rfl⟩ : ∃ m, i = m + 1 := ⟨i - 1, by omega⟩
  have hm : m < l.length := by omega
  have hm1 : m + 1 < l.length := by omega
  have hmC : m < (clsL T l).length := by simp [clsL]; omega
  obtain ⟨a, ha⟩ : ∃ a, a = clsN T l[m] := ⟨_, rfl⟩
  obtain ⟨b, hb⟩ : ∃ b, b = clsN T l[m + 1] := ⟨_, rfl⟩
  obtain ⟨jn, hjn⟩ : ∃ x, x = extPict ((clsL T l).take m).reverse := ⟨_, rfl⟩
  obtain ⟨od, hod⟩ : ∃ x, x = oddR ((clsL T l).take (m + 1)).reverse := ⟨_, rfl⟩
  have e0 : (clsL T l).getD (m + 1) 0 = b := by rw [hb]; simp [clsL, hm1]
  have e1 : docPre ((clsL T l).take (m + 1)).reverse ((clsL T l).getD (m + 1) 0) = docP a b jn od := by
    rw [e0, hod, take_rev _ m hmC, docPre, hjn]
    have e2 : (clsL T l)[m] = a := by rw [ha]; simp [clsL]
    rw [e2]
  rw [e1]
  simp only [Nat.add_sub_cancel, ← hjn] at hJ
  simp only [← hod] at hO
  have HX2 := Lib.hid (fun r hr w => refClassI_any T hT r hr w)
  have hal : a < 14 := by rw [ha]; exact cls_lt hT.ok _
  have hbl : b < 14 := by rw [hb]; exact cls_lt hT.ok _
  have c1 := hcell m hm
  have c2 := hcell (m + 1) hm1
  obtain ⟨x, hx⟩ : ∃ x, x = l[m] := ⟨_, rfl⟩
  obtain ⟨y, hy⟩ : ∃ y, y = l[m + 1] := ⟨_, rfl⟩
  rw [← hx] at c1 ha
  have hxI : I32 x := by rw [hx]; exact hl _ (List.getElem_mem _)
  rw [← hy] at c2 hb
  have hyI : I32 y := by rw [hy]; exact hl _ (List.getElem_mem _)
  have HA1 : Hid (clsN T x = a) := Lib.hid ha.symm
  have HB1 : Hid (clsN T y = b) := Lib.hid hb.symm
  have HJ := Lib.hid hJ
  have HO := Lib.hid hO
  have HCE := Lib.hid hcell
  obtain ⟨R, hR⟩ : ∃ R, R = docP a b jn od := ⟨_, rfl⟩
  have HR := Lib.hid hR
  rw [← hR]
  subst hA
  have q0 : IntKind.i64.wrap (((m + 1 : Nat) : Int) - 1) = (m : Int) := by rw [IntKind.wrap_i64]; omega
  have z1 : (1 : Int) ≤ ((m + 1 : Nat) : Int) := by omega
  have z2 : ((m + 1 : Nat) : Int) < (N : Int) := by omega
  have z3 : (0 : Int) ≤ (m : Int) := Int.natCast_nonneg _
  have z4 : (m : Int) < (N : Int) := by omega
  have z5 : (((m + 1 : Nat) : Int) < 1) = False := by simp; omega
  have z6 : ((N : Int) ≤ ((m + 1 : Nat) : Int)) = False := by simp; omega
  obtain ⟨k, hk⟩ : ∃ k, k = m + 1 := ⟨_, rfl⟩
  have hkk : ((m + 1 : Nat) : Int) = (k : Int) := by rw [hk]
  rw [hkk] at q0 z1 z2 z5 z6
  rw [← hk] at c2
  simp only [← hk] at HJ HO
  rw [← hk]
  have z7 : (0 : Int) ≤ (k : Int) := Int.natCast_nonneg _
  clear hJ hO hjn hod e0 e1 ha hb hx hy hR hN hT hl hm hm1 hmC hi hi1 hcell hkk hk
  go_enter Try.func13, Try.ntmps13
  go_upto_region 3 with fail
  go_cut [5, 6] from 15 to 119 (fun s5 s6 w3 => s5 = .int .i64 (a : Int) ∧ s6 = .int .i64 (b : Int) ∧ Below w.heap.size w w3)
  case first =>
    go_region_held3 (fun w' => w'.cell? ⟨g, off + m, none⟩ = some (.int .i32 x) ∧ w'.cell? ⟨g, off + k, none⟩ = some (.int .i32 y) ∧ Below w.heap.size w w')
      (first | assumption | (go_split_ands; exact ⟨by assumption, by assumption, (Below.refl _ w).drew⟩) | (go_split_ands; exact ⟨cellsAt_below (by assumption) hbx, cellsAt_below (by assumption) hbx, Below.trans (by assumption) (hbx.mono (Below.size (by assumption)))⟩))
      (first
        | (go_at_call 20; refine (HX2.out _ (by assumption) _).mono ?_; rintro e wx ⟨rfl, hbx⟩))
    all_goals (go_wp2_with fail; go_meet; go_split_ands; exact ⟨by rw [HA1.out], by rw [HB1.out], by assumption⟩)
  case rest =>
    obtain ⟨rfl, rfl, hbw⟩ := hcut
    have HB := Lib.hid hbw
    have HC3 : Hid (∀ (j : Nat) (h : j < l.length), wc.cell? ⟨g, off + j, none⟩ = some (.int .i32 l[j])) := Lib.hid (fun j h => cellsAt_below (HCE.out j h) HB.out)
    have AE := fun h : a < 14 => Lib.hid (refEnds_any a h)
    have BE := fun h : b < 14 => Lib.hid (refEnds_any b h)
    have AE := AE hal
    have BE := BE hbl
    clear hbw hal hbl c1 c2
    have HRR := Lib.hid (HR.out.trans (docP_chain a b jn od))
    clear HR
    obtain ⟨h4, hh4⟩ : ∃ z, z = decide (a = 1 ∧ b = 2) := ⟨_, rfl⟩
    have HH4 := Lib.hid hh4
    go_upto_region 4 with fail
    go_cut [26] from 15 to 119 (fun s wx => s = .bool h4 ∧ Below w.heap.size w wx)
    case first =>
      rcases (show (a = 1 ∧ b = 2) ∨ (a = 1 ∧ b ≠ 2) ∨ a ≠ 1 by omega) with ⟨g0, g1⟩ | ⟨g0, g1⟩ | g0
      · have pa1 : ((a : Int) == 1) = true := by simp; omega
        have pb2 : ((b : Int) == 2) = true := by simp; omega
        have HV : Hid (h4 = true) := Lib.hid (by rw [hh4]; simp [g0, g1])
        clear hh4 g0 g1
        go_wp2_with fail
        go_meet
        exact ⟨by rw [HV.out], HB.out⟩
      · have pa1 : ((a : Int) == 1) = true := by simp; omega
        have nb2 : ((b : Int) == 2) = false := by simp; omega
        have HV : Hid (h4 = false) := Lib.hid (by rw [hh4]; simp [g0, g1])
        clear hh4 g0 g1
        go_wp2_with fail
        go_meet
        exact ⟨by rw [HV.out], HB.out⟩
      · have na1 : ((a : Int) == 1) = false := by simp; omega
        have HV : Hid (h4 = false) := Lib.hid (by rw [hh4]; simp [g0])
        clear hh4 g0
        go_wp2_with fail
        go_meet
        exact ⟨by rw [HV.out], HB.out⟩
    case rest =>
      obtain ⟨rfl, hbw4⟩ := hcut
      have HB := Lib.hid hbw4
      have HC3 : Hid (∀ (j : Nat) (h : j < l.length), wc.cell? ⟨g, off + j, none⟩ = some (.int .i32 l[j])) := Lib.hid (fun j h => cellsAt_below (HCE.out j h) HB.out)
      clear hbw4 hh4
      have HRR := Lib.hid (docP_step4 HRR.out HH4.out)
      cases h4 with
      | true =>
        go_wp2_with fail
        go_ret
        exact ⟨by rw [HRR.out]; rfl, HB.out⟩
      | false =>
        have HRR := Lib.hid (if_false_of HRR.out)
        obtain ⟨h6, hh6⟩ : ∃ z, z = (endsN a || endsN b) := ⟨_, rfl⟩
        have HH6 := Lib.hid hh6
        go_upto_region 6 with fail
        go_cut [33] from 15 to 119 (fun s wx => s = .bool h6 ∧ Below w.heap.size w wx)
        case first =>
          have HV : Hid (h6 = (endsN a || endsN b)) := Lib.hid hh6
          clear hh6
          obtain ⟨ea, hea⟩ : ∃ z, z = endsN a := ⟨_, rfl⟩
          obtain ⟨eb, heb⟩ : ∃ z, z = endsN b := ⟨_, rfl⟩
          have AE := AE.out
          have BE := BE.out
          rw [← hea] at AE
          rw [← heb] at BE
          have HV2 : Hid (h6 = (ea || eb)) := Lib.hid (by rw [HV.out, hea, heb])
          have AE := Lib.hid AE
          have BE := Lib.hid BE
          clear HV hea heb
          cases ea
          · go_wp2_with fail
            refine (AE.out _).mono ?_
            rintro e w' ⟨rfl, rfl⟩
            go_wp2_with fail
            refine (BE.out _).mono ?_
            rintro e w' ⟨rfl, rfl⟩
            go_wp2_with fail
            go_meet
            exact ⟨by rw [HV2.out]; simp, HB.out⟩
          · go_wp2_with fail
            refine (AE.out _).mono ?_
            rintro e w' ⟨rfl, rfl⟩
            go_wp2_with fail
            go_meet
            exact ⟨by rw [HV2.out]; simp, HB.out⟩
        case rest =>
          obtain ⟨rfl, hbw6⟩ := hcut
          have HB := Lib.hid hbw6
          have HC3 : Hid (∀ (j : Nat) (h : j < l.length), wc.cell? ⟨g, off + j, none⟩ = some (.int .i32 l[j])) := Lib.hid (fun j h => cellsAt_below (HCE.out j h) HB.out)
          clear hbw6 hh6
          have HRR := Lib.hid (docP_step6 HRR.out HH6.out)
          cases h6 with
          | true =>
            go_wp2_with fail
            go_ret
            exact ⟨by rw [HRR.out]; rfl, HB.out⟩
          | false =>
            have HRR := Lib.hid (if_false_of HRR.out)
            obtain ⟨h8, hh8⟩ : ∃ z, z = decide (a = 8 ∧ (b = 8 ∨ b = 9 ∨ b = 11 ∨ b = 12)) := ⟨_, rfl⟩
            have HH8 := Lib.hid hh8
            go_upto_region 8 with fail
            go_cut [40] from 15 to 119 (fun s wx => s = .bool h8 ∧ Below w.heap.size w wx)
            case first =>
              rcases (show (a = 8 ∧ b = 8) ∨ (a = 8 ∧ b = 9) ∨ (a = 8 ∧ b = 11) ∨ (a = 8 ∧ b = 12) ∨ (a = 8 ∧ b ≠ 8 ∧ b ≠ 9 ∧ b ≠ 11 ∧ b ≠ 12) ∨ a ≠ 8 by omega) with ⟨g0, g1⟩ | ⟨g0, g1⟩ | ⟨g0, g1⟩ | ⟨g0, g1⟩ | ⟨g0, g1, g2, g3, g4⟩ | g0
              · have pa8 : ((a : Int) == 8) = true := by simp; omega
                have pb8 : ((b : Int) == 8) = true := by simp; omega
                have nb9 : ((b : Int) == 9) = false := by simp; omega
                have nb11 : ((b : Int) == 11) = false := by simp; omega
                have nb12 : ((b : Int) == 12) = false := by simp; omega
                have HV : Hid (h8 = true) := Lib.hid (by rw [hh8]; simp [g0, g1])
                clear hh8 g0 g1
                go_wp2_with fail
                go_meet
                exact ⟨by rw [HV.out], HB.out⟩
              · have pa8 : ((a : Int) == 8) = true := by simp; omega
                have nb8 : ((b : Int) == 8) = false := by simp; omega
                have pb9 : ((b : Int) == 9) = true := by simp; omega
                have nb11 : ((b : Int) == 11) = false := by simp; omega
                have nb12 : ((b : Int) == 12) = false := by simp; omega
                have HV : Hid (h8 = true) := Lib.hid (by rw [hh8]; simp [g0, g1])
                clear hh8 g0 g1
                go_wp2_with fail
                go_meet
                exact ⟨by rw [HV.out], HB.out⟩
              · have pa8 : ((a : Int) == 8) = true := by simp; omega
                have nb8 : ((b : Int) == 8) = false := by simp; omega
                have nb9 : ((b : Int) == 9) = false := by simp; omega
                have pb11 : ((b : Int) == 11) = true := by simp; omega
                have nb12 : ((b : Int) == 12) = false := by simp; omega
                have HV : Hid (h8 = true) := Lib.hid (by rw [hh8]; simp [g0, g1])
                clear hh8 g0 g1
                go_wp2_with fail
                go_meet
                exact ⟨by rw [HV.out], HB.out⟩
              · have pa8 : ((a : Int) == 8) = true := by simp; omega
                have nb8 : ((b : Int) == 8) = false := by simp; omega
                have nb9 : ((b : Int) == 9) = false := by simp; omega
                have nb11 : ((b : Int) == 11) = false := by simp; omega
                have pb12 : ((b : Int) == 12) = true := by simp; omega
                have HV : Hid (h8 = true) := Lib.hid (by rw [hh8]; simp [g0, g1])
                clear hh8 g0 g1
                go_wp2_with fail
                go_meet
                exact ⟨by rw [HV.out], HB.out⟩
              · have pa8 : ((a : Int) == 8) = true := by simp; omega
                have nb8 : ((b : Int) == 8) = false := by simp; omega
                have nb9 : ((b : Int) == 9) = false := by simp; omega
                have nb11 : ((b : Int) == 11) = false := by simp; omega
                have nb12 : ((b : Int) == 12) = false := by simp; omega
                have HV : Hid (h8 = false) := Lib.hid (by rw [hh8]; simp [g0, g1, g2, g3, g4])
                clear hh8 g0 g1 g2 g3 g4
                go_wp2_with fail
                go_meet
                exact ⟨by rw [HV.out], HB.out⟩
              · have na8 : ((a : Int) == 8) = false := by simp; omega
                have HV : Hid (h8 = false) := Lib.hid (by rw [hh8]; simp [g0])
                clear hh8 g0
                go_wp2_with fail
                go_meet
                exact ⟨by rw [HV.out], HB.out⟩
            case rest =>
              obtain ⟨rfl, hbw8⟩ := hcut
              have HB := Lib.hid hbw8
              have HC3 : Hid (∀ (j : Nat) (h : j < l.length), wc.cell? ⟨g, off + j, none⟩ = some (.int .i32 l[j])) := Lib.hid (fun j h => cellsAt_below (HCE.out j h) HB.out)
              clear hbw8 hh8
              have HRR := Lib.hid (docP_step8 HRR.out HH8.out)
              cases h8 with
              | true =>
                go_wp2_with fail
                go_ret
                exact ⟨by rw [HRR.out]; rfl, HB.out⟩
              | false =>
                have HRR := Lib.hid (if_false_of HRR.out)
                obtain ⟨h10, hh10⟩ : ∃ z, z = decide ((a = 11 ∨ a = 9) ∧ (b = 9 ∨ b = 10)) := ⟨_, rfl⟩
                have HH10 := Lib.hid hh10
                go_upto_region 10 with fail
                go_cut [59] from 15 to 119 (fun s wx => s = .bool h10 ∧ Below w.heap.size w wx)
                case first =>
                  rcases (show (a = 11 ∧ b = 9) ∨ (a = 11 ∧ b = 10) ∨ (a = 11 ∧ b ≠ 9 ∧ b ≠ 10) ∨ (a = 9 ∧ b = 9) ∨ (a = 9 ∧ b = 10) ∨ (a = 9 ∧ b ≠ 9 ∧ b ≠ 10) ∨ (a ≠ 11 ∧ a ≠ 9) by omega) with ⟨g0, g1⟩ | ⟨g0, g1⟩ | ⟨g0, g1, g2⟩ | ⟨g0, g1⟩ | ⟨g0, g1⟩ | ⟨g0, g1, g2⟩ | ⟨g0, g1⟩
                  · have pa11 : ((a : Int) == 11) = true := by simp; omega
                    have na9 : ((a : Int) == 9) = false := by simp; omega
                    have pb9 : ((b : Int) == 9) = true := by simp; omega
                    have nb10 : ((b : Int) == 10) = false := by simp; omega
                    have HV : Hid (h10 = true) := Lib.hid (by rw [hh10]; simp [g0, g1])
                    clear hh10 g0 g1
                    go_wp2_with fail
                    go_meet
                    exact ⟨by rw [HV.out], HB.out⟩
                  · have pa11 : ((a : Int) == 11) = true := by simp; omega
                    have na9 : ((a : Int) == 9) = false := by simp; omega
                    have nb9 : ((b : Int) == 9) = false := by simp; omega
                    have pb10 : ((b : Int) == 10) = true := by simp; omega
                    have HV : Hid (h10 = true) := Lib.hid (by rw [hh10]; simp [g0, g1])
                    clear hh10 g0 g1
                    go_wp2_with fail
                    go_meet
                    exact ⟨by rw [HV.out], HB.out⟩
                  · have pa11 : ((a : Int) == 11) = true := by simp; omega
                    have na9 : ((a : Int) == 9) = false := by simp; omega
                    have nb9 : ((b : Int) == 9) = false := by simp; omega
                    have nb10 : ((b : Int) == 10) = false := by simp; omega
                    have HV : Hid (h10 = false) := Lib.hid (by rw [hh10]; simp [g0, g1, g2])
                    clear hh10 g0 g1 g2
                    go_wp2_with fail
                    go_meet
                    exact ⟨by rw [HV.out], HB.out⟩
                  · have na11 : ((a : Int) == 11) = false := by simp; omega
                    have pa9 : ((a : Int) == 9) = true := by simp; omega
                    have pb9 : ((b : Int) == 9) = true := by simp; omega
                    have nb10 : ((b : Int) == 10) = false := by simp; omega
                    have HV : Hid (h10 = true) := Lib.hid (by rw [hh10]; simp [g0, g1])
                    clear hh10 g0 g1
                    go_wp2_with fail
                    go_meet
                    exact ⟨by rw [HV.out], HB.out⟩
                  · have na11 : ((a : Int) == 11) = false := by simp; omega
                    have pa9 : ((a : Int) == 9) = true := by simp; omega
                    have nb9 : ((b : Int) == 9) = false := by simp; omega
                    have pb10 : ((b : Int) == 10) = true := by simp; omega
                    have HV : Hid (h10 = true) := Lib.hid (by rw [hh10]; simp [g0, g1])
                    clear hh10 g0 g1
                    go_wp2_with fail
                    go_meet
                    exact ⟨by rw [HV.out], HB.out⟩
                  · have na11 : ((a : Int) == 11) = false := by simp; omega
                    have pa9 : ((a : Int) == 9) = true := by simp; omega
                    have nb9 : ((b : Int) == 9) = false := by simp; omega
                    have nb10 : ((b : Int) == 10) = false := by simp; omega
                    have HV : Hid (h10 = false) := Lib.hid (by rw [hh10]; simp [g0, g1, g2])
                    clear hh10 g0 g1 g2
                    go_wp2_with fail
                    go_meet
                    exact ⟨by rw [HV.out], HB.out⟩
                  · have na11 : ((a : Int) == 11) = false := by simp; omega
                    have na9 : ((a : Int) == 9) = false := by simp; omega
                    have HV : Hid (h10 = false) := Lib.hid (by rw [hh10]; simp [g0, g1])
                    clear hh10 g0 g1
                    go_wp2_with fail
                    go_meet
                    exact ⟨by rw [HV.out], HB.out⟩
                case rest =>
                  obtain ⟨rfl, hbw10⟩ := hcut
                  have HB := Lib.hid hbw10
                  have HC3 : Hid (∀ (j : Nat) (h : j < l.length), wc.cell? ⟨g, off + j, none⟩ = some (.int .i32 l[j])) := Lib.hid (fun j h => cellsAt_below (HCE.out j h) HB.out)
                  clear hbw10 hh10
                  have HRR := Lib.hid (docP_step10 HRR.out HH10.out)
                  cases h10 with
                  | true =>
                    go_wp2_with fail
                    go_ret
                    exact ⟨by rw [HRR.out]; rfl, HB.out⟩
                  | false =>
                    have HRR := Lib.hid (if_false_of HRR.out)
                    obtain ⟨h12, hh12⟩ : ∃ z, z = decide ((a = 12 ∨ a = 10) ∧ b = 10) := ⟨_, rfl⟩
                    have HH12 := Lib.hid hh12
                    go_upto_region 12 with fail
                    go_cut [74] from 15 to 119 (fun s wx => s = .bool h12 ∧ Below w.heap.size w wx)
                    case first =>
                      rcases (show (a = 12 ∧ b = 10) ∨ (a = 12 ∧ b ≠ 10) ∨ (a = 10 ∧ b = 10) ∨ (a = 10 ∧ b ≠ 10) ∨ (a ≠ 12 ∧ a ≠ 10) by omega) with ⟨g0, g1⟩ | ⟨g0, g1⟩ | ⟨g0, g1⟩ | ⟨g0, g1⟩ | ⟨g0, g1⟩
                      · have pa12 : ((a : Int) == 12) = true := by simp; omega
                        have na10 : ((a : Int) == 10) = false := by simp; omega
                        have pb10 : ((b : Int) == 10) = true := by simp; omega
                        have HV : Hid (h12 = true) := Lib.hid (by rw [hh12]; simp [g0, g1])
                        clear hh12 g0 g1
                        go_wp2_with fail
                        go_meet
                        exact ⟨by rw [HV.out], HB.out⟩
                      · have pa12 : ((a : Int) == 12) = true := by simp; omega
                        have na10 : ((a : Int) == 10) = false := by simp; omega
                        have nb10 : ((b : Int) == 10) = false := by simp; omega
                        have HV : Hid (h12 = false) := Lib.hid (by rw [hh12]; simp [g0, g1])
                        clear hh12 g0 g1
                        go_wp2_with fail
                        go_meet
                        exact ⟨by rw [HV.out], HB.out⟩
                      · have na12 : ((a : Int) == 12) = false := by simp; omega
                        have pa10 : ((a : Int) == 10) = true := by simp; omega
                        have pb10 : ((b : Int) == 10) = true := by simp; omega
                        have HV : Hid (h12 = true) := Lib.hid (by rw [hh12]; simp [g0, g1])
                        clear hh12 g0 g1
                        go_wp2_with fail
                        go_meet
                        exact ⟨by rw [HV.out], HB.out⟩
                      · have na12 : ((a : Int) == 12) = false := by simp; omega
                        have pa10 : ((a : Int) == 10) = true := by simp; omega
                        have nb10 : ((b : Int) == 10) = false := by simp; omega
                        have HV : Hid (h12 = false) := Lib.hid (by rw [hh12]; simp [g0, g1])
                        clear hh12 g0 g1
                        go_wp2_with fail
                        go_meet
                        exact ⟨by rw [HV.out], HB.out⟩
                      · have na12 : ((a : Int) == 12) = false := by simp; omega
                        have na10 : ((a : Int) == 10) = false := by simp; omega
                        have HV : Hid (h12 = false) := Lib.hid (by rw [hh12]; simp [g0, g1])
                        clear hh12 g0 g1
                        go_wp2_with fail
                        go_meet
                        exact ⟨by rw [HV.out], HB.out⟩
                    case rest =>
                      obtain ⟨rfl, hbw12⟩ := hcut
                      have HB := Lib.hid hbw12
                      have HC3 : Hid (∀ (j : Nat) (h : j < l.length), wc.cell? ⟨g, off + j, none⟩ = some (.int .i32 l[j])) := Lib.hid (fun j h => cellsAt_below (HCE.out j h) HB.out)
                      clear hbw12 hh12
                      have HRR := Lib.hid (docP_step12 HRR.out HH12.out)
                      cases h12 with
                      | true =>
                        go_wp2_with fail
                        go_ret
                        exact ⟨by rw [HRR.out]; rfl, HB.out⟩
                      | false =>
                        have HRR := Lib.hid (if_false_of HRR.out)
                        obtain ⟨h14, hh14⟩ : ∃ z, z = decide (b = 4 ∨ b = 5 ∨ a = 7) := ⟨_, rfl⟩
                        have HH14 := Lib.hid hh14
                        go_upto_region 14 with fail
                        go_cut [85] from 15 to 119 (fun s wx => s = .bool h14 ∧ Below w.heap.size w wx)
                        case first =>
                          rcases (show b = 4 ∨ b = 5 ∨ (b ≠ 4 ∧ b ≠ 5 ∧ a = 7) ∨ (b ≠ 4 ∧ b ≠ 5 ∧ a ≠ 7) by omega) with g0 | g0 | ⟨g0, g1, g2⟩ | ⟨g0, g1, g2⟩
                          · have pb4 : ((b : Int) == 4) = true := by simp; omega
                            have HV : Hid (h14 = true) := Lib.hid (by rw [hh14]; simp [g0])
                            clear hh14 g0
                            go_wp2_with fail
                            go_meet
                            exact ⟨by rw [HV.out], HB.out⟩
                          · have pb5 : ((b : Int) == 5) = true := by simp; omega
                            have nb4 : ((b : Int) == 4) = false := by simp; omega
                            have HV : Hid (h14 = true) := Lib.hid (by rw [hh14]; simp [g0])
                            clear hh14 g0
                            go_wp2_with fail
                            go_meet
                            exact ⟨by rw [HV.out], HB.out⟩
                          · have nb4 : ((b : Int) == 4) = false := by simp; omega
                            have nb5 : ((b : Int) == 5) = false := by simp; omega
                            have pa7 : ((a : Int) == 7) = true := by simp; omega
                            have HV : Hid (h14 = true) := Lib.hid (by rw [hh14]; simp [g0, g1, g2])
                            clear hh14 g0 g1 g2
                            go_wp2_with fail
                            go_meet
                            exact ⟨by rw [HV.out], HB.out⟩
                          · have nb4 : ((b : Int) == 4) = false := by simp; omega
                            have nb5 : ((b : Int) == 5) = false := by simp; omega
                            have na7 : ((a : Int) == 7) = false := by simp; omega
                            have HV : Hid (h14 = false) := Lib.hid (by rw [hh14]; simp [g0, g1, g2])
                            clear hh14 g0 g1 g2
                            go_wp2_with fail
                            go_meet
                            exact ⟨by rw [HV.out], HB.out⟩
                        case rest =>
                          obtain ⟨rfl, hbw14⟩ := hcut
                          have HB := Lib.hid hbw14
                          have HC3 : Hid (∀ (j : Nat) (h : j < l.length), wc.cell? ⟨g, off + j, none⟩ = some (.int .i32 l[j])) := Lib.hid (fun j h => cellsAt_below (HCE.out j h) HB.out)
                          clear hbw14 hh14
                          have HRR := Lib.hid (docP_step14 HRR.out HH14.out)
                          cases h14 with
                          | true =>
                            go_wp2_with fail
                            go_ret
                            exact ⟨by rw [HRR.out]; rfl, HB.out⟩
                          | false =>
                            have HRR := Lib.hid (if_false_of HRR.out)
                            obtain ⟨h16, hh16⟩ : ∃ z, z = decide (a = 5 ∧ b = 13 ∧ jn = true) := ⟨_, rfl⟩
                            have HH16 := Lib.hid hh16
                            go_upto_region 16 with fail
                            go_cut [96] from 15 to 119 (fun s wx => s = .bool h16 ∧ Below w.heap.size w wx)
                            case first =>
                              rcases (show (a = 5 ∧ b = 13) ∨ (a = 5 ∧ b ≠ 13) ∨ a ≠ 5 by omega) with ⟨g0, g1⟩ | ⟨g0, g1⟩ | g0
                              · have pa5 : ((a : Int) == 5) = true := by simp; omega
                                have pb13 : ((b : Int) == 13) = true := by simp; omega
                                have HV : Hid (h16 = jn) := Lib.hid (by rw [hh16]; simp [g0, g1])
                                clear hh16 g0 g1
                                go_wp2_with fail
                                refine (HJ.out _ HC3.out).mono ?_
                                rintro e w4 ⟨rfl, hb4⟩
                                have HB4 := Lib.hid (HB.out.trans (hb4.mono HB.out.size))
                                clear hb4
                                go_wp2_with fail
                                go_meet
                                exact ⟨by rw [HV.out], HB4.out⟩
                              · have pa5 : ((a : Int) == 5) = true := by simp; omega
                                have nb13 : ((b : Int) == 13) = false := by simp; omega
                                have HV : Hid (h16 = false) := Lib.hid (by rw [hh16]; simp [g0, g1])
                                clear hh16 g0 g1
                                go_wp2_with fail
                                go_meet
                                exact ⟨by rw [HV.out], HB.out⟩
                              · have na5 : ((a : Int) == 5) = false := by simp; omega
                                have HV : Hid (h16 = false) := Lib.hid (by rw [hh16]; simp [g0])
                                clear hh16 g0
                                go_wp2_with fail
                                go_meet
                                exact ⟨by rw [HV.out], HB.out⟩
                            case rest =>
                              obtain ⟨rfl, hbw16⟩ := hcut
                              have HB := Lib.hid hbw16
                              have HC3 : Hid (∀ (j : Nat) (h : j < l.length), wc.cell? ⟨g, off + j, none⟩ = some (.int .i32 l[j])) := Lib.hid (fun j h => cellsAt_below (HCE.out j h) HB.out)
                              clear hbw16 hh16
                              have HRR := Lib.hid (docP_step16 HRR.out HH16.out)
                              cases h16 with
                              | true =>
                                go_wp2_with fail
                                go_ret
                                exact ⟨by rw [HRR.out]; rfl, HB.out⟩
                              | false =>
                                have HRR := Lib.hid (if_false_of HRR.out)
                                obtain ⟨h18, hh18⟩ : ∃ z, z = decide (a = 6 ∧ b = 6 ∧ od = true) := ⟨_, rfl⟩
                                have HH18 := Lib.hid hh18
                                go_upto_region 18 with fail
                                go_cut [108] from 15 to 119 (fun s wx => s = .bool h18 ∧ Below w.heap.size w wx)
                                case first =>
                                  rcases (show (a = 6 ∧ b = 6) ∨ (a = 6 ∧ b ≠ 6) ∨ a ≠ 6 by omega) with ⟨g0, g1⟩ | ⟨g0, g1⟩ | g0
                                  · have pa6 : ((a : Int) == 6) = true := by simp; omega
                                    have pb6 : ((b : Int) == 6) = true := by simp; omega
                                    have HV : Hid (h18 = od) := Lib.hid (by rw [hh18]; simp [g0, g1])
                                    clear hh18 g0 g1
                                    go_wp2_with fail
                                    refine (HO.out _ HC3.out).mono ?_
                                    rintro e w4 ⟨rfl, hb4⟩
                                    have HB4 := Lib.hid (HB.out.trans (hb4.mono HB.out.size))
                                    clear hb4
                                    go_wp2_with fail
                                    go_meet
                                    exact ⟨by rw [HV.out], HB4.out⟩
                                  · have pa6 : ((a : Int) == 6) = true := by simp; omega
                                    have nb6 : ((b : Int) == 6) = false := by simp; omega
                                    have HV : Hid (h18 = false) := Lib.hid (by rw [hh18]; simp [g0, g1])
                                    clear hh18 g0 g1
                                    go_wp2_with fail
                                    go_meet
                                    exact ⟨by rw [HV.out], HB.out⟩
                                  · have na6 : ((a : Int) == 6) = false := by simp; omega
                                    have HV : Hid (h18 = false) := Lib.hid (by rw [hh18]; simp [g0])
                                    clear hh18 g0
                                    go_wp2_with fail
                                    go_meet
                                    exact ⟨by rw [HV.out], HB.out⟩
                                case rest =>
                                  obtain ⟨rfl, hbw18⟩ := hcut
                                  have HB := Lib.hid hbw18
                                  have HC3 : Hid (∀ (j : Nat) (h : j < l.length), wc.cell? ⟨g, off + j, none⟩ = some (.int .i32 l[j])) := Lib.hid (fun j h => cellsAt_below (HCE.out j h) HB.out)
                                  clear hbw18 hh18
                                  have HRR := Lib.hid (docP_step18 HRR.out HH18.out)
                                  cases h18 with
                                  | true =>
                                    go_wp2_with fail
                                    go_ret
                                    exact ⟨by rw [HRR.out]; rfl, HB.out⟩
                                  | false =>
                                    have HRR := Lib.hid (if_false_of HRR.out)
                                    go_wp2_with fail
                                    go_ret
                                    exact ⟨by rw [HRR.out]; rfl, HB.out⟩
end Go.Proofs.Ytjlencmoobanoaa
