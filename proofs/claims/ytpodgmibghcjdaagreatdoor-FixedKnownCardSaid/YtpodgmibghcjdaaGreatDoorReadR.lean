/-
  The document's Read.
-/
import Derived.Test.YtpodgmibghcjdaaGreatDoorRight
import Derived.Test.YtpodgmibghcjdaaGreatDoorRefQ
import Derived.Deep.RegionHeld3
namespace Go.Proofs.YtpodgmibghcjdaaGreatDoor
open Go Go.RowKit

theorem lit1 (w : World) (d : Nat) (hd : d < 65536) : LongR (w.alloc (.cells #[.int .u32 (d : Int)] 68)) (.slice (some ⟨w.heap.size, 0, none⟩) 1 1) [d] := by
  refine ⟨by simpa using hd, by simp, some ⟨w.heap.size, 0, none⟩, 1, rfl, by simp, by simp, fun _ => ⟨w.heap.size, rfl, by simp, fun j hj => ?_⟩⟩
  have : j = 0 := by simp at hj; exact hj
  subst this
  simp

theorem lit2 (w : World) : LongR (w.alloc (.cells #[.int .u32 0, .int .u32 1] 68)) (.slice (some ⟨w.heap.size, 0, none⟩) 2 2) [0, 1] := by
  refine ⟨by simp, by simp, some ⟨w.heap.size, 0, none⟩, 2, rfl, by simp, by simp, fun _ => ⟨w.heap.size, rfl, by simp, fun j hj => ?_⟩⟩
  rcases (show j = 0 ∨ j = 1 by simp at hj; omega) with rfl | rfl
  · simp
  · simp

theorem below_new (w : World) (o : Obj) : Below w.heap.size w (w.alloc o) := (Below.refl _ w).alloc (Nat.le_refl _) o

theorem decN_take (l : List Nat) (i : Nat) (h : i < l.length) : decN 0 (l.take (i + 1)) = decN 0 (l.take i) * 10 + l.getD i 0 := by
  have e : l.take (i + 1) = l.take i ++ [l.getD i 0] := by
    rw [List.take_succ_eq_append_getElem h]
    simp [h]
  rw [e, decN_append, decN_cons, decN_nil]

/-- at the head of each round of Read -/
def ReadRel (w1 : World) (l : List Nat) (m N k : Nat) (vn vd vi : Value) (wr : World) : Prop :=
  ∃ i n d, i + k = N ∧ vi = .int .i64 ((i : Nat) : Int) ∧ LongR wr vn n ∧ LongR wr vd d ∧ n.length ≤ 2 * i + 1 ∧ d.length ≤ i + 1 ∧
    longN n = decN 0 (l.take i) ∧ longN d = 10 ^ (i - (N - m)) ∧ Below w1.heap.size w1 wr

set_option maxHeartbeats 4000000 in
set_option maxRecDepth 20000 in
theorem refRead_any (s : ByteArray) (hs : s.size ≤ 140737488351232) (w : World) :
    Calls Tryz.prog 25 #[.string s] w fun e w' => e = told (readE s.data.toList) ∧ Below w.heap.size w w' := by
  have hright := fun w => right_any s hs w
  have HRIGHT := Lib.hid hright
  obtain ⟨E, hE⟩ : ∃ E, E = told (readE s.data.toList) := ⟨_, rfl⟩
  have HE := Lib.hid hE
  rw [← hE]
  clear hright hE
  go_enter Tryz.func25, Tryz.ntmps25
  go_wp2_with fail
  refine (HRIGHT.out _).mono ?_
  rintro e w1 ⟨hb1, ⟨hnone, b, v, m, rfl⟩ | ⟨b, X, Y, v, hsome, rfl, hv⟩⟩
  · have HX : Hid (E = pair 0 2) := Lib.hid (by rw [HE.out]; unfold readE; rw [hnone]; rfl)
    clear hnone
    go_wp2_with fail
    go_ret2
    exact ⟨by rw [HX.out]; rfl, hb1⟩
  · obtain ⟨hl40, hX40, hY40, hXd, hYd⟩ := split_parts hsome
    have hX : X.all isDig = true := (digits_ne hXd).1
    have hlen : X.length + Y.length ≤ 80 := by omega
    have hfin : E = told (endQ (halfUp (numL (X ++ Y) * 65536) (10 ^ Y.length)) b) := by
      rw [HE.out, read_half b X Y hYd]
      unfold readE
      rw [hsome]
    have hval : decN 0 ((X ++ Y).map dg) = numL (X ++ Y) := decN_map _ 0
    have hdig : ∀ j, ((X ++ Y).map dg).getD j 0 < 10 := by
      intro j
      by_cases hj : j < ((X ++ Y).map dg).length
      · have hm : ((X ++ Y).map dg).getD j 0 ∈ (X ++ Y).map dg := by
          rw [List.getD_eq_getElem?_getD, List.getElem?_eq_getElem hj]; exact List.getElem_mem _
        obtain ⟨c, hc, e⟩ := List.mem_map.1 hm
        have hcd : isDig c = true := by
          rcases List.mem_append.1 hc with h | h
          · exact List.all_eq_true.1 hX c h
          · exact List.all_eq_true.1 hYd c h
        have := (isDig_iff c).1 hcd
        rw [← e]; unfold dg; omega
      · rw [List.getD_eq_getElem?_getD, List.getElem?_eq_none (by omega)]; decide
    have hln : ((X ++ Y).map dg).length = X.length + Y.length := by simp
    obtain ⟨V, hV⟩ : ∃ V, V = numL (X ++ Y) := ⟨_, rfl⟩
    rw [← hV] at hfin hval
    obtain ⟨l, hl⟩ : ∃ l, l = (X ++ Y).map dg := ⟨_, rfl⟩
    rw [← hl] at hval hdig hln hv
    obtain ⟨m, hm⟩ : ∃ m, m = Y.length := ⟨_, rfl⟩
    rw [← hm] at hfin hlen hln ⊢
    obtain ⟨N, hN⟩ : ∃ N, N = l.length := ⟨_, rfl⟩
    have hmN : m ≤ N := by omega
    have hN80 : N ≤ 80 := by omega
    obtain ⟨A, cap, rfl, hcap, hcap2, hx⟩ := hv
    rw [← hN] at hcap ⊢
    have HX := Lib.hid hx
    have HFIN := Lib.hid hfin
    have HVAL := Lib.hid hval
    have HDIG := Lib.hid hdig
    have HN := Lib.hid hN
    have HB1 := Lib.hid hb1
    have hz1 := hb1.size
    have hmI : (m : Int) ≤ N := by omega
    have q1 : IntKind.i64.wrap ((N : Int) - (m : Int)) = (N : Int) - (m : Int) := by rw [IntKind.wrap_i64]; omega
    clear hsome hl40 hX40 hY40 hXd hYd hX hlen hfin hval hdig hln hV hl hm hN hx hb1 HE
    go_wp2_with fail
    go_loopg [8, 9, 10] N (fun k vn vd vi wr => ReadRel w1 l m N k vn vd vi wr)
    case atStart =>
      refine ⟨0, [0], [1], by omega, rfl, ?_, ?_, by simp, by simp, by simp [longN, decN_nil], by simp [longN], ?_⟩
      · exact (lit1 w1 0 (by omega)).below (below_new _ _)
      · have h := lit1 (w1.alloc (.cells #[.int .u32 0] 68)) 1 (by omega)
        simpa using h
      · exact ((Below.refl _ w1).alloc (Nat.le_refl _) _).alloc (by simp) _
    case round =>
      obtain ⟨i, n, d, hik, rfl, hn, hd, hnl, hdl, hnv, hdv, hb⟩ := hrel
      have HNR := Lib.hid hn
      have HDR := Lib.hid hd
      have HNV := Lib.hid hnv
      have HDV := Lib.hid hdv
      have HB := Lib.hid hb
      have hzr := hb.size
      clear hn hd hnv hdv hb
      rcases Nat.eq_zero_or_pos gk with h0 | h0
      · obtain rfl := h0
        obtain rfl : i = N := by omega
        have hfinal : longN n = V ∧ longN d = 10 ^ m := by
          refine ⟨?_, ?_⟩
          · rw [HNV.out, List.take_of_length_le (by have := HN.out; omega)]; exact HVAL.out
          · rw [HDV.out, show i - (i - m) = m by omega]
        have HF1 := Lib.hid hfinal.1
        have HF2 := Lib.hid hfinal.2
        clear hfinal
        have HL2 := Lib.hid (lit2 wr)
        have hbA := below_new wr (.cells #[.int .u32 0, .int .u32 1] 68)
        have HBA := Lib.hid (HB.out.trans (hbA.mono HB.out.size))
        have HN2 := Lib.hid (HNR.out.below hbA)
        have HD2 := Lib.hid (HDR.out.below hbA)
        clear hbA
        go_wp2_with fail
        refine (refTimes_any _ _ n [0, 1] _ HN2.out HL2.out (by simp; omega)).mono ?_
        rintro e w2 ⟨v2, l2, rfl, hl2, hn2, hlen2, hb2⟩
        have HB2 := Lib.hid (HBA.out.trans (hb2.mono HBA.out.size))
        have HD3 := Lib.hid (HD2.out.below hb2)
        have HN3 : Hid (longN l2 = V * 65536) := Lib.hid (by rw [hn2, HF1.out]; simp [longN])
        have L2 := Lib.hid hl2
        simp at hlen2
        clear hl2 hn2 hb2
        go_wp2_with fail
        refine (refDivide_any _ _ l2 d _ L2.out HD3.out (by rw [HF2.out]; exact Nat.pow_pos (by omega)) (by omega)).mono ?_
        rintro e w3 ⟨vq, vr, q, r, rfl, hq, hr, hqn, hrn, hql, hrl, hb3⟩
        have HB3 := Lib.hid (HB2.out.trans (hb3.mono HB2.out.size))
        have HD4 := Lib.hid (HD3.out.below hb3)
        rw [HN3.out, HF2.out] at hqn hrn
        have HQ := Lib.hid hq
        have HR := Lib.hid hr
        have HQN := Lib.hid hqn
        have HRN := Lib.hid hrn
        clear hq hr hqn hrn hb3
        go_wp2_with fail
        refine (refDouble_any _ r 0 _ HR.out (by omega) (by omega)).mono ?_
        rintro e w4 ⟨v4, l4, rfl, hl4, hn4, hlen4, hb4⟩
        have HB4 := Lib.hid (HB3.out.trans (hb4.mono HB3.out.size))
        have HD5 := Lib.hid (HD4.out.below hb4)
        have HQ4 := Lib.hid (HQ.out.below hb4)
        have HN4 : Hid (longN l4 = 2 * (V * 65536 % 10 ^ m)) := Lib.hid (by rw [hn4, HRN.out]; omega)
        have L4 := Lib.hid hl4
        clear hl4 hn4 hb4
        go_wp2_with fail
        refine (refLess_any _ _ l4 d _ L4.out HD5.out).mono ?_
        rintro e w5 ⟨rfl, rfl⟩
        rw [HN4.out, HF2.out]
        by_cases hless : 2 * (V * 65536 % 10 ^ m) < 10 ^ m
        · have HE : Hid (E = told (endQ (longN q) b)) := Lib.hid (by rw [HFIN.out, HQN.out]; unfold halfUp; rw [if_pos hless])
          rw [show decide (2 * (V * 65536 % 10 ^ m) < 10 ^ m) = true by simpa using hless]
          clear hless
          go_wp2_with fail
          refine (refNumber_any _ q b _ HQ4.out).mono ?_
          rintro e w6 ⟨rfl, rfl⟩
          obtain ⟨z, k, hz⟩ := told_pair (longN q) b
          rw [hz]
          have HZ := Lib.hid hz
          clear hz
          go_wp2_with fail
          go_ret2
          exact ⟨by rw [HE.out, HZ.out]; rfl, HB1.out.trans (HB4.out.mono HB1.out.size)⟩
        · have HE : Hid (E = told (endQ (longN q + 1) b)) := Lib.hid (by rw [HFIN.out, HQN.out]; unfold halfUp; rw [if_neg hless])
          rw [show decide (2 * (V * 65536 % 10 ^ m) < 10 ^ m) = false by simpa using hless]
          clear hless
          go_wp2_with fail
          refine (refPlusOne_any _ q _ HQ4.out (by omega)).mono ?_
          rintro e w6 ⟨v6, l6, rfl, hl6, hn6, hlen6, hb6⟩
          have HB6 := Lib.hid (HB4.out.trans (hb6.mono HB4.out.size))
          have L6 := Lib.hid hl6
          have HN6 := Lib.hid hn6
          clear hl6 hn6 hb6
          go_wp2_with fail
          refine (refNumber_any _ l6 b _ L6.out).mono ?_
          rintro e w7 ⟨rfl, rfl⟩
          rw [HN6.out]
          obtain ⟨z, k, hz⟩ := told_pair (longN q + 1) b
          rw [hz]
          have HZ := Lib.hid hz
          clear hz
          go_wp2_with fail
          go_ret2
          exact ⟨by rw [HE.out, HZ.out]; rfl, HB1.out.trans (HB6.out.mono HB1.out.size)⟩
      · have hiN : i < N := by omega
        have hil : i < l.length := by have := HN.out; omega
        obtain ⟨g, rfl, hg, hcell⟩ := HX.out (by intro e; rw [e] at hil; simp at hil)
        obtain ⟨x, hx⟩ : ∃ x, x = l.getD i 0 := ⟨_, rfl⟩
        have hcx : wr.cell? ⟨g, i, none⟩ = some (.int .i64 (x : Int)) := by rw [HB.out.cell hg, hx, hcell i hil]; simp [hil]
        have hx10 : x < 10 := by rw [hx]; exact HDIG.out i
        have hxI : (x : Int) ≤ 9 := by omega
        have HXV := Lib.hid hx
        have hi0 : (0 : Int) ≤ (i : Int) := Int.natCast_nonneg _
        have hi1 : (i : Int) < (N : Int) := by omega
        have hu10 : IntKind.u32.wrap (x : Int) = (x : Int) := by rw [IntKind.wrap_u32]; omega
        have hbD : Below wr.heap.size wr (wr.drew.alloc (.cells #[.int .u32 10] 68)) := ((Below.refl _ wr).drew).alloc (by simp) _
        have HL10 : Hid (LongR (wr.drew.alloc (.cells #[.int .u32 10] 68)) (.slice (some ⟨wr.heap.size, 0, none⟩) 1 1) [10]) := Lib.hid (by
          have h := lit1 wr.drew 10 (by omega)
          simpa using h)
        have HN10 := Lib.hid (HNR.out.below hbD)
        have HD10 := Lib.hid (HDR.out.below hbD)
        have HB10 := Lib.hid (HB.out.trans (hbD.mono HB.out.size))
        clear hcell hx hbD
        go_wp2_with fail
        go_region_held3 (fun w' => w'.cell? ⟨g, i, none⟩ = some (.int .i64 (x : Int))) (first | go_keep | (rw [hb2.cell (by simp; omega)]; assumption) | (have hz2 := hb2.size; simp at hz2; rw [hb3.cell (by show g < _; omega)]; assumption))
          (first
            | (go_at_call 49; refine (refTimes_any _ _ n [10] _ HN10.out HL10.out (by simp; omega)).mono ?_; rintro e w2 ⟨v2, l2, rfl, hl2, hn2, hlen2, hb2⟩)
            | (go_at_call 48; refine (refPlus_any _ l2 x _ hl2 (by omega) (by simp at hlen2; omega)).mono ?_; rintro e w3 ⟨v3, l3, rfl, hl3, hn3, hlen3, hb3⟩))
        have HB2 := Lib.hid (HB10.out.trans (hb2.mono HB10.out.size))
        have HB3 := Lib.hid (HB2.out.trans (hb3.mono HB2.out.size))
        have HD3 := Lib.hid ((HD10.out.below hb2).below hb3)
        have HN3 := Lib.hid hl3
        have HNV3 : Hid (longN l3 = decN 0 (l.take (i + 1))) := Lib.hid (by
          rw [hn3, hn2, HNV.out, decN_take l i hil, ← HXV.out]; simp [longN])
        simp at hlen2
        have hz3 := HB3.out.size
        clear hl2 hn2 hb2 hl3 hn3 hb3
        by_cases hge : N - m ≤ i
        · have hgeI : (N : Int) - (m : Int) ≤ (i : Int) := by omega
          have HDV3 : Hid (longN d * 10 = 10 ^ (i + 1 - (N - m))) := Lib.hid (by
            rw [HDV.out, show i + 1 - (N - m) = (i - (N - m)) + 1 by omega, Nat.pow_succ])
          have HLT := Lib.hid (lit1 w3 10 (by omega))
          have hbT := below_new w3 (.cells #[.int .u32 10] 68)
          have HDT := Lib.hid (HD3.out.below hbT)
          have HNT := Lib.hid (HN3.out.below hbT)
          have HBT := Lib.hid (HB3.out.trans (hbT.mono HB3.out.size))
          clear hge hbT
          go_wp2_with fail
          refine (refTimes_any _ _ d [10] _ HDT.out HLT.out (by simp; omega)).mono ?_
          rintro e w4 ⟨v4, l4, rfl, hl4, hn4, hlen4, hb4⟩
          have HB4 := Lib.hid (HBT.out.trans (hb4.mono HBT.out.size))
          have HN4 := Lib.hid (HNT.out.below hb4)
          have HL4 := Lib.hid hl4
          have HV4 : Hid (longN l4 = 10 ^ (i + 1 - (N - m))) := Lib.hid (by rw [hn4, ← HDV3.out]; simp [longN])
          simp at hlen4
          clear hl4 hn4 hb4
          go_wp2_with fail
          go_roundg (gk - 1)
          case measure => omega
          case rel =>
            exact ⟨i + 1, l3, l4, by omega, by first | rfl | exact congrArg _ (by omega), HN4.out, HL4.out, by omega, by omega, HNV3.out, HV4.out, HB4.out⟩
        · have hgeI : (i : Int) < (N : Int) - (m : Int) := by omega
          have HDV3 : Hid (longN d = 10 ^ (i + 1 - (N - m))) := Lib.hid (by
            rw [HDV.out, show i + 1 - (N - m) = 0 by omega, show i - (N - m) = 0 by omega])
          clear hge
          go_wp2_with fail
          go_roundg (gk - 1)
          case measure => omega
          case rel =>
            exact ⟨i + 1, l3, d, by omega, by first | rfl | exact congrArg _ (by omega), HN3.out, HD3.out, by omega, by omega, HNV3.out, HDV3.out, HB3.out⟩
end Go.Proofs.YtpodgmibghcjdaaGreatDoor
