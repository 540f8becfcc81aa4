/-
  The document's long numbers: minus.
-/
import Derived.Test.YtpodgmibghcjdaaGreatDoorCarry
namespace Go.Proofs.YtpodgmibghcjdaaGreatDoor
open Go Go.RowKit

theorem longN_take (b : List Nat) (k : Nat) : longN (b.take (k + 1)) = longN (b.take k) + 65536 ^ k * b.getD k 0 := by
  by_cases h : k < b.length
  · rw [List.take_succ_eq_append_getElem h, longN_append, List.length_take, Nat.min_eq_left (Nat.le_of_lt h)]
    simp [longN, h]
  · rw [List.take_of_length_le (by omega), List.take_of_length_le (by omega)]
    simp [h]

theorem longN_cut (b : List Nat) (k : Nat) : longN b = longN (b.take k) + 65536 ^ k * longN (b.drop k) := by
  by_cases h : k ≤ b.length
  · have := longN_append (b.take k) (b.drop k)
    rw [List.take_append_drop, List.length_take, Nat.min_eq_left h] at this
    exact this
  · rw [List.take_of_length_le (by omega), List.drop_of_length_le (by omega)]
    simp [longN]

theorem longN_lt (l : List Nat) (h : ∀ d ∈ l, d < 65536) : longN l < 65536 ^ l.length := by
  induction l with
  | nil => simp [longN]
  | cons d t ih =>
    have h1 := h d (by simp)
    have h2 := ih (fun x hx => h x (by simp [hx]))
    rw [longN, List.length_cons, Nat.pow_succ]
    omega

theorem min_step {a b ds : List Nat} {t t' x : Nat} (h : longN (a.take ds.length) + 65536 ^ ds.length * t = longN ds + longN (b.take ds.length)) (hl : ds.length < a.length)
    (hx : x + (t + b.getD ds.length 0) = a[ds.length] + 65536 * t') :
    longN (a.take (ds ++ [x]).length) + 65536 ^ (ds ++ [x]).length * t' = longN (ds ++ [x]) + longN (b.take (ds ++ [x]).length) := by
  have ea := longN_take a ds.length
  have eb := longN_take b ds.length
  rw [List.length_append, List.length_singleton, ea, eb, longN_append, Nat.pow_succ]
  have e0 : a.getD ds.length 0 = a[ds.length] := by simp [hl]
  rw [e0]
  have e1 : longN [x] = x := by simp [longN]
  rw [e1]
  generalize a[ds.length] = d at *
  generalize b.getD ds.length 0 = e at *
  generalize 65536 ^ ds.length = P at *
  have : P * (x + (t + e)) = P * (d + 65536 * t') := by rw [hx]
  rw [Nat.mul_add, Nat.mul_add, Nat.mul_add, ← Nat.mul_assoc] at this
  omega

theorem min_end {a b ds : List Nat} {t : Nat} (h : longN (a.take ds.length) + 65536 ^ ds.length * t = longN ds + longN (b.take ds.length)) (hl : ds.length = a.length)
    (ha : ∀ d ∈ a, d < 65536) (hd : ∀ d ∈ ds, d < 65536) (ht : t ≤ 1) (hab : longN b ≤ longN a) : longN ds = longN a - longN b := by
  have h1 := longN_lt a ha
  have h2 := longN_lt ds hd
  have h3 := longN_cut b ds.length
  rw [List.take_of_length_le (show a.length ≤ ds.length by omega)] at h
  rw [hl] at h h2 h3
  generalize 65536 ^ a.length = P at *
  have hz : longN (b.drop a.length) = 0 := by
    rcases Nat.eq_zero_or_pos (longN (b.drop a.length)) with h0 | h0
    · exact h0
    · have : P * 1 ≤ P * longN (b.drop a.length) := Nat.mul_le_mul_left _ h0
      omega
  have ht2 : t = 0 ∨ t = 1 := by omega
  rw [hz, Nat.mul_zero, Nat.add_zero] at h3
  rw [← h3] at h
  rcases ht2 with rfl | rfl
  · rw [Nat.mul_zero] at h; omega
  · rw [Nat.mul_one] at h; omega

/-- at the head of each round of minus -/
def MinRel (w : World) (a b : List Nat) (N : Nat) (k : Nat) (vo vt vi : Value) (wr : World) : Prop :=
  ∃ ds t, OwnD w.heap.size wr vo ds ∧ Below w.heap.size w wr ∧ vt = .int .u32 ((t : Nat) : Int) ∧ t ≤ 1 ∧ vi = .int .i64 ((ds.length : Nat) : Int) ∧ ds.length + k = N ∧
    longN (a.take ds.length) + 65536 ^ ds.length * t = longN ds + longN (b.take ds.length)

set_option maxHeartbeats 2000000 in
set_option maxRecDepth 20000 in
theorem refMinus_any (va vb : Value) (a b : List Nat) (w : World) (ha : LongR w va a) (hbv : LongR w vb b) (hab : longN b ≤ longN a) :
    Calls Tryz.prog 74 #[va, vb] w fun e w' => ∃ v' l', e = .returned v' ∧ LongR w' v' l' ∧ longN l' = longN a - longN b ∧ l'.length ≤ a.length ∧ Below w.heap.size w w' := by
  obtain ⟨i0, hi, hz0, hz1, hz2⟩ := info_parts infoU32
  obtain ⟨A, cap, rfl, hcap, hcap2, hx⟩ := ha.at_
  obtain ⟨B, capb, rfl, hcapb, hcapb2, hxb⟩ := hbv.at_
  have HX := Lib.hid hx
  have HXB := Lib.hid hxb
  have HA := Lib.hid ha
  have HB := Lib.hid hbv
  have HAB := Lib.hid hab
  have h5 := ha.len
  have h5b := hbv.len
  obtain ⟨N, hN⟩ : ∃ N, N = a.length := ⟨_, rfl⟩
  obtain ⟨M, hM⟩ : ∃ M, M = b.length := ⟨_, rfl⟩
  rw [← hN] at hcap h5
  rw [← hM] at hcapb h5b
  have HN := Lib.hid hN
  have HM := Lib.hid hM
  rw [← hN, ← hM]
  clear hx ha hN hxb hbv hM hab
  go_enter Tryz.func74, Tryz.ntmps74
  go_wp2_with fail
  go_loopg [5, 6, 7] N (fun k vo vt vi wr => MinRel w a b N k vo vt vi wr)
  case atStart => exact ⟨[], 0, OwnD.nil _ _, Below.refl _ _, rfl, by omega, rfl, by simp, by simp [longN]⟩
  case round =>
    obtain ⟨ds, t, ho, hb, rfl, ht, rfl, hk, hv⟩ := hrel
    obtain ⟨L, hL⟩ : ∃ L, L = ds.length := ⟨_, rfl⟩
    have hd := Lib.hid ho.2
    have HO := Lib.hid ho
    have hown := ho.1
    have HV := Lib.hid hv
    have HL := Lib.hid hL
    have hz := hb.size
    have htI : (t : Int) ≤ 1 := by omega
    rw [← hL] at hk hown
    rw [← hL]
    have HOW := Lib.hid hown
    clear hv ho hL hown
    by_cases h0 : gk = 0
    · obtain rfl : L = N := by omega
      have HP : Hid (LongR wr u5 ds) := HO.out.long (by rw [← HL.out]; omega)
      go_wp2_with (go_at_call 73; refine (trim_any _ _ _ HP.out).mono ?_; rintro e w' ⟨rfl, v', l', rfl, hl1, hl2, hl3⟩)
      go_ret
      refine ⟨_, l', rfl, hl1, ?_, by have := HL.out; omega, hb⟩
      rw [hl2]
      exact min_end HV.out (by have := HL.out; have := HN.out; omega) HA.out.dig hd.out ht HAB.out
    · have hLN : L < N := by omega
      obtain ⟨g, rfl, hg, hcell⟩ := HX.out (by intro e; have := HN.out; rw [e] at this; simp at this; omega)
      have hLl : L < a.length := by have := HN.out; omega
      obtain ⟨d, hd2⟩ : ∃ d, d = a[L] := ⟨_, rfl⟩
      have hcd : wr.cell? ⟨g, L, none⟩ = some (.int .u32 (d : Int)) := by rw [hb.cell hg, hd2]; exact hcell L hLl
      have hdd : d < 65536 := by rw [hd2]; exact HA.out.dig _ (List.getElem_mem _)
      have hdI : (d : Int) ≤ 65535 := by omega
      clear hcell
      obtain ⟨e, he⟩ : ∃ e, e = b.getD L 0 := ⟨_, rfl⟩
      by_cases hin : L < M
      · have hLb : L < b.length := by have := HM.out; omega
        obtain ⟨gb, rfl, hgb, hcell⟩ := HXB.out (by intro e; rw [e] at hLb; simp at hLb)
        have hce : wr.cell? ⟨gb, L, none⟩ = some (.int .u32 (e : Int)) := by
          rw [hb.cell hgb, he, hcell L hLb]; simp [hLb]
        have hed : e < 65536 := by rw [he]; simp only [List.getD_eq_getElem?_getD, List.getElem?_eq_getElem hLb, Option.getD_some]; exact HB.out.dig _ (List.getElem_mem _)
        have heI : (e : Int) ≤ 65535 := by omega
        by_cases hcase : d < t + e
        · obtain ⟨x, hx⟩ : ∃ x, x = d + 65536 - (t + e) := ⟨_, rfl⟩
          obtain ⟨t2, ht2⟩ : ∃ t2, t2 = 1 := ⟨_, rfl⟩
          have hx2 : x < 65536 := by omega
          have hst := min_step (a := a) (b := b) (x := x) (t' := t2) HV.out (by rw [← HL.out]; exact hLl) (by simp only [← HL.out, ← hd2, ← he]; omega)
          have HST := Lib.hid hst
          have hlt : (d : Int) < (t : Int) + (e : Int) := by omega
          have hrx : (d : Int) + 65536 - ((t : Int) + (e : Int)) = (x : Int) := by omega
          clear hst hx hd2 hcell he hcase
          go_wp2_with (at_builtin; refine wpList_append_own _ rfl _ _ 70 rfl w.heap.size 68 i0 (.int .u32 0) 1 4 Tryz.underlying70 hi hz0 hz1 hz2 rfl (by decide) _ _ _ rfl (HOW.out.alloc _) ⟨wr.heap.size, 0, none⟩ 1 1 [.int .u32 (x : Int)] rfl rfl one_cell (fun u hu => by simp at hu; subst hu; rfl) (by unfold maxLen; omega) (by omega) (by simp; omega) ?_)
          intro v' w2 hown' hgrow _
          have hb2 : Below w.heap.size w w2 := (hb.alloc (by omega) _).grown hgrow (by simp; omega) (fun k hk => (HOW.out.lt k hk).1)
          have HP : Hid (OwnD w.heap.size w2 v' (ds ++ [x])) := by
            refine OwnD.push hd.out hx2 ?_
            rw [← HL.out]; exact hown'
          clear hown' hgrow hb hcd
          go_wp2
          go_roundg (gk - 1)
          case measure => omega
          case rel =>
            have hL := HL.out
            exact ⟨ds ++ [x], t2, HP.out, hb2, by first | rfl | (simp [ht2]), by omega, by simp [← hL], by simp; omega, HST.out⟩
        · obtain ⟨x, hx⟩ : ∃ x, x = d - (t + e) := ⟨_, rfl⟩
          obtain ⟨t2, ht2⟩ : ∃ t2, t2 = 0 := ⟨_, rfl⟩
          have hx2 : x < 65536 := by omega
          have hst := min_step (a := a) (b := b) (x := x) (t' := t2) HV.out (by rw [← HL.out]; exact hLl) (by simp only [← HL.out, ← hd2, ← he]; omega)
          have HST := Lib.hid hst
          have hlt : ¬ (d : Int) < (t : Int) + (e : Int) := by omega
          have hrx : (d : Int) - ((t : Int) + (e : Int)) = (x : Int) := by omega
          clear hst hx hd2 hcell he hcase
          go_wp2_with (at_builtin; refine wpList_append_own _ rfl _ _ 70 rfl w.heap.size 68 i0 (.int .u32 0) 1 4 Tryz.underlying70 hi hz0 hz1 hz2 rfl (by decide) _ _ _ rfl (HOW.out.alloc _) ⟨wr.heap.size, 0, none⟩ 1 1 [.int .u32 (x : Int)] rfl rfl one_cell (fun u hu => by simp at hu; subst hu; rfl) (by unfold maxLen; omega) (by omega) (by simp; omega) ?_)
          intro v' w2 hown' hgrow _
          have hb2 : Below w.heap.size w w2 := (hb.alloc (by omega) _).grown hgrow (by simp; omega) (fun k hk => (HOW.out.lt k hk).1)
          have HP : Hid (OwnD w.heap.size w2 v' (ds ++ [x])) := by
            refine OwnD.push hd.out hx2 ?_
            rw [← HL.out]; exact hown'
          clear hown' hgrow hb hcd
          go_wp2
          go_roundg (gk - 1)
          case measure => omega
          case rel =>
            have hL := HL.out
            exact ⟨ds ++ [x], t2, HP.out, hb2, by first | rfl | (simp [ht2]), by omega, by simp [← hL], by simp; omega, HST.out⟩
      · have hez : e = 0 := by rw [he, List.getD_eq_getElem?_getD, List.getElem?_eq_none (by have := HM.out; omega)]; rfl
        obtain rfl := hez
        have hcell : True := trivial
        by_cases hcase : d < t + 0
        · obtain ⟨x, hx⟩ : ∃ x, x = d + 65536 - (t + 0) := ⟨_, rfl⟩
          obtain ⟨t2, ht2⟩ : ∃ t2, t2 = 1 := ⟨_, rfl⟩
          have hx2 : x < 65536 := by omega
          have hst := min_step (a := a) (b := b) (x := x) (t' := t2) HV.out (by rw [← HL.out]; exact hLl) (by simp only [← HL.out, ← hd2, ← he]; omega)
          have HST := Lib.hid hst
          have hlt : (d : Int) < (t : Int) := by omega
          have hrx : (d : Int) + 65536 - ((t : Int)) = (x : Int) := by omega
          clear hst hx hd2 hcell he hcase
          go_wp2_with (at_builtin; refine wpList_append_own _ rfl _ _ 70 rfl w.heap.size 68 i0 (.int .u32 0) 1 4 Tryz.underlying70 hi hz0 hz1 hz2 rfl (by decide) _ _ _ rfl (HOW.out.alloc _) ⟨wr.heap.size, 0, none⟩ 1 1 [.int .u32 (x : Int)] rfl rfl one_cell (fun u hu => by simp at hu; subst hu; rfl) (by unfold maxLen; omega) (by omega) (by simp; omega) ?_)
          intro v' w2 hown' hgrow _
          have hb2 : Below w.heap.size w w2 := (hb.alloc (by omega) _).grown hgrow (by simp; omega) (fun k hk => (HOW.out.lt k hk).1)
          have HP : Hid (OwnD w.heap.size w2 v' (ds ++ [x])) := by
            refine OwnD.push hd.out hx2 ?_
            rw [← HL.out]; exact hown'
          clear hown' hgrow hb hcd
          go_wp2
          go_roundg (gk - 1)
          case measure => omega
          case rel =>
            have hL := HL.out
            exact ⟨ds ++ [x], t2, HP.out, hb2, by first | rfl | (simp [ht2]), by omega, by simp [← hL], by simp; omega, HST.out⟩
        · obtain ⟨x, hx⟩ : ∃ x, x = d - (t + 0) := ⟨_, rfl⟩
          obtain ⟨t2, ht2⟩ : ∃ t2, t2 = 0 := ⟨_, rfl⟩
          have hx2 : x < 65536 := by omega
          have hst := min_step (a := a) (b := b) (x := x) (t' := t2) HV.out (by rw [← HL.out]; exact hLl) (by simp only [← HL.out, ← hd2, ← he]; omega)
          have HST := Lib.hid hst
          have hlt : ¬ (d : Int) < (t : Int) := by omega
          have hrx : (d : Int) - ((t : Int)) = (x : Int) := by omega
          clear hst hx hd2 hcell he hcase
          go_wp2_with (at_builtin; refine wpList_append_own _ rfl _ _ 70 rfl w.heap.size 68 i0 (.int .u32 0) 1 4 Tryz.underlying70 hi hz0 hz1 hz2 rfl (by decide) _ _ _ rfl (HOW.out.alloc _) ⟨wr.heap.size, 0, none⟩ 1 1 [.int .u32 (x : Int)] rfl rfl one_cell (fun u hu => by simp at hu; subst hu; rfl) (by unfold maxLen; omega) (by omega) (by simp; omega) ?_)
          intro v' w2 hown' hgrow _
          have hb2 : Below w.heap.size w w2 := (hb.alloc (by omega) _).grown hgrow (by simp; omega) (fun k hk => (HOW.out.lt k hk).1)
          have HP : Hid (OwnD w.heap.size w2 v' (ds ++ [x])) := by
            refine OwnD.push hd.out hx2 ?_
            rw [← HL.out]; exact hown'
          clear hown' hgrow hb hcd
          go_wp2
          go_roundg (gk - 1)
          case measure => omega
          case rel =>
            have hL := HL.out
            exact ⟨ds ++ [x], t2, HP.out, hb2, by first | rfl | (simp [ht2]), by omega, by simp [← hL], by simp; omega, HST.out⟩
end Go.Proofs.YtpodgmibghcjdaaGreatDoor
