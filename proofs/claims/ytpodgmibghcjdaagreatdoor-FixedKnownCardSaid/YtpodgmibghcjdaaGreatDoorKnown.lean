/-
  FixedKnown: the examples of the chapter, and edges. A closed statement.
-/
import Derived.Test.YtpodgmibghcjdaaGreatDoorReads
import Derived.Test.YtpodgmibghcjdaaGreatDoorSums
import Derived.Test.YtpodgmibghcjdaaGreatDoorNear
import Derived.Test.YtpodgmibghcjdaaGreatDoorPrints
import Derived.Test.YtpodgmibghcjdaaGreatDoorQuots
import Derived.Deep.RegionHeld3
namespace Go.Proofs.YtpodgmibghcjdaaGreatDoor
open Go Go.RowKit

theorem MulDiv_of (a b c z k : Int) (ha : I64 a) (hb : I64 b) (hc : I64 c) (h : told (floorE a b c) = .returned (.tuple #[.int .i64 z, .int .i64 k])) (w : World) :
    Calls Tryz.prog 5 #[.int .i64 a, .int .i64 b, .int .i64 c] w fun e w' => e = .returned (.tuple #[.int .i64 z, .int .i64 k]) ∧ Below w.heap.size w w' := by
  have := MulDiv_any a b c ha hb hc w
  rwa [h] at this

theorem Round_of (a b c z k : Int) (ha : I64 a) (hb : I64 b) (hc : I64 c) (h : told (roundE a b c) = .returned (.tuple #[.int .i64 z, .int .i64 k])) (w : World) :
    Calls Tryz.prog 4 #[.int .i64 a, .int .i64 b, .int .i64 c] w fun e w' => e = .returned (.tuple #[.int .i64 z, .int .i64 k]) ∧ Below w.heap.size w w' := by
  have := Round_any a b c ha hb hc w
  rwa [h] at this

theorem Print_of (n : Int) (l : List UInt8) (hn : I64 n) (h : printL n = l) (w : World) (ht : TabW w) :
    Calls Tryz.prog 6 #[.int .i64 n] w fun e w' => e = .returned (.string ⟨l.toArray⟩) ∧ Below w.heap.size w w' := by
  obtain ⟨n1, n2⟩ := hn
  have := print_any n n1 n2 w (fun w'' hb' => formatUint_any _ (by omega) w'' (tab_below hb' (tab_lt ht) ht))
  rwa [h] at this

theorem Read_of (l : List UInt8) (z k : Int) (hl : l.length ≤ 200) (h : told (readE l) = .returned (.tuple #[.int .i64 z, .int .i64 k])) (w : World) (hg : Glob w) (hE : ErrW w) :
    Calls Tryz.prog 8 #[.string ⟨l.toArray⟩] w fun e w' => e = .returned (.tuple #[.int .i64 z, .int .i64 k]) ∧ Below w.heap.size w w' := by
  have := read_any ⟨l.toArray⟩ (by simp [ByteArray.size]; omega) w hg (fun _ => hE)
  rw [show (ByteArray.mk l.toArray).data.toList = l by simp] at this
  rwa [h] at this

theorem prints1 : printL 98304 = [49, 46, 53] := by
  unfold printL
  rw [show (98304 : Int).natAbs / 65536 = 1 from rfl, show (98304 : Int).natAbs % 65536 = 32768 from rfl]
  rw [Lib.decDigits, dif_pos (by omega)]
  decide

theorem prints2 : printL 0 = [48] := by
  unfold printL
  rw [show (0 : Int).natAbs / 65536 = 0 from rfl, show (0 : Int).natAbs % 65536 = 0 from rfl]
  rw [Lib.decDigits, dif_pos (by omega)]
  decide

theorem prints3 : printL (-9223372036854775808) = [45, 49, 52, 48, 55, 51, 55, 52, 56, 56, 51, 53, 53, 51, 50, 56] := by
  unfold printL
  rw [show (-9223372036854775808 : Int).natAbs / 65536 = 140737488355328 from rfl, show (-9223372036854775808 : Int).natAbs % 65536 = 0 from rfl]
  rw [dec_step 140737488355328, if_neg (show ¬ 140737488355328 < 10 by decide), show (140737488355328 : Nat) / 10 = 14073748835532 by decide, show (140737488355328 : Nat) % 10 = 8 by decide]
  rw [dec_step 14073748835532, if_neg (show ¬ 14073748835532 < 10 by decide), show (14073748835532 : Nat) / 10 = 1407374883553 by decide, show (14073748835532 : Nat) % 10 = 2 by decide]
  rw [dec_step 1407374883553, if_neg (show ¬ 1407374883553 < 10 by decide), show (1407374883553 : Nat) / 10 = 140737488355 by decide, show (1407374883553 : Nat) % 10 = 3 by decide]
  rw [dec_step 140737488355, if_neg (show ¬ 140737488355 < 10 by decide), show (140737488355 : Nat) / 10 = 14073748835 by decide, show (140737488355 : Nat) % 10 = 5 by decide]
  rw [dec_step 14073748835, if_neg (show ¬ 14073748835 < 10 by decide), show (14073748835 : Nat) / 10 = 1407374883 by decide, show (14073748835 : Nat) % 10 = 5 by decide]
  rw [dec_step 1407374883, if_neg (show ¬ 1407374883 < 10 by decide), show (1407374883 : Nat) / 10 = 140737488 by decide, show (1407374883 : Nat) % 10 = 3 by decide]
  rw [dec_step 140737488, if_neg (show ¬ 140737488 < 10 by decide), show (140737488 : Nat) / 10 = 14073748 by decide, show (140737488 : Nat) % 10 = 8 by decide]
  rw [dec_step 14073748, if_neg (show ¬ 14073748 < 10 by decide), show (14073748 : Nat) / 10 = 1407374 by decide, show (14073748 : Nat) % 10 = 8 by decide]
  rw [dec_step 1407374, if_neg (show ¬ 1407374 < 10 by decide), show (1407374 : Nat) / 10 = 140737 by decide, show (1407374 : Nat) % 10 = 4 by decide]
  rw [dec_step 140737, if_neg (show ¬ 140737 < 10 by decide), show (140737 : Nat) / 10 = 14073 by decide, show (140737 : Nat) % 10 = 7 by decide]
  rw [dec_step 14073, if_neg (show ¬ 14073 < 10 by decide), show (14073 : Nat) / 10 = 1407 by decide, show (14073 : Nat) % 10 = 3 by decide]
  rw [dec_step 1407, if_neg (show ¬ 1407 < 10 by decide), show (1407 : Nat) / 10 = 140 by decide, show (1407 : Nat) % 10 = 7 by decide]
  rw [dec_step 140, if_neg (show ¬ 140 < 10 by decide), show (140 : Nat) / 10 = 14 by decide, show (140 : Nat) % 10 = 0 by decide]
  rw [dec_step 14, if_neg (show ¬ 14 < 10 by decide), show (14 : Nat) / 10 = 1 by decide, show (14 : Nat) % 10 = 4 by decide]
  rw [dec_step 1, if_pos (show 1 < 10 by decide), show (1 : Nat) % 10 = 1 by decide]
  decide

/-- what the walk of FixedKnown hands on -/
structure KnownW (w w' : World) : Prop where
  below : Below w.heap.size w w'
  glob : Glob w'
  err : ErrW w'
  tab : TabW w'

theorem KnownW.step {w w1 w2 : World} (h : KnownW w w1) (hb : Below w1.heap.size w1 w2) : KnownW w w2 :=
  ⟨h.below.trans (hb.mono h.below.size), h.glob.below hb, err_below h.err hb, tab_below hb (tab_lt h.tab) h.tab⟩

/-- the texts' row reads as texts -/
def TextsW (g : Nat) (w : World) : Prop := g < w.heap.size ∧ ∀ i, i < 24 → ∃ s : ByteArray, w.cell? ⟨g, i, none⟩ = some (.string s)
/-- the edges' row reads as numbers -/
def EdgesW (g : Nat) (w : World) : Prop := g < w.heap.size ∧ ∀ i, i < 17 → ∃ x : Int, I64 x ∧ w.cell? ⟨g, i, none⟩ = some (.int .i64 x)

theorem TextsW.step {g : Nat} {w w' : World} (h : TextsW g w) (hb : Below w.heap.size w w') : TextsW g w' :=
  ⟨by have := hb.size; have := h.1; omega, fun i hi => by obtain ⟨s, e⟩ := h.2 i hi; exact ⟨s, by rw [hb.cell (show g < _ from h.1)]; exact e⟩⟩
theorem EdgesW.step {g : Nat} {w w' : World} (h : EdgesW g w) (hb : Below w.heap.size w w') : EdgesW g w' :=
  ⟨by have := hb.size; have := h.1; omega, fun i hi => by obtain ⟨x, hx, e⟩ := h.2 i hi; exact ⟨x, hx, by rw [hb.cell (show g < _ from h.1)]; exact e⟩⟩

theorem texts_new (w : World) (l : List Value) (t : TypeId) (hl : l.length = 24) (hs : (l.all fun v => match v with | .string _ => true | _ => false) = true) : TextsW w.heap.size (w.alloc (.cells l.toArray t)) := by
  refine ⟨by simp, fun i hi => ?_⟩
  have hi' : i < l.length := by omega
  have hm := List.all_eq_true.1 hs l[i] (List.getElem_mem _)
  have hc : (w.alloc (.cells l.toArray t)).cell? ⟨w.heap.size, i, none⟩ = some l[i] := by
    rw [cell_of_row _ w.heap.size i _ _ _ (heap_alloc_new w _)]; simp [hi']
  rw [hc]
  revert hm
  cases l[i] with
  | string s => intro _; exact ⟨s, rfl⟩
  | _ => intro h; cases h

theorem edges_new (w : World) (l : List Value) (t : TypeId) (hl : l.length = 17) (hs : (l.all fun v => match v with | .int .i64 x => decide (-9223372036854775808 ≤ x) && decide (x ≤ 9223372036854775807) | _ => false) = true) : EdgesW w.heap.size (w.alloc (.cells l.toArray t)) := by
  refine ⟨by simp, fun i hi => ?_⟩
  have hi' : i < l.length := by omega
  have hm := List.all_eq_true.1 hs l[i] (List.getElem_mem _)
  have hc : (w.alloc (.cells l.toArray t)).cell? ⟨w.heap.size, i, none⟩ = some l[i] := by
    rw [cell_of_row _ w.heap.size i _ _ _ (heap_alloc_new w _)]; simp [hi']
  rw [hc]
  revert hm
  cases l[i] with
  | int k x =>
    cases k with
    | i64 => intro h; simp only [Bool.and_eq_true, decide_eq_true_eq] at h; exact ⟨x, ⟨h.1, h.2⟩, rfl⟩
    | _ => intro h; cases h
  | _ => intro h; cases h

def Rel1 (w : World) (g k : Nat) (vi : Value) (wr : World) : Prop := ∃ i, i + k = 24 ∧ vi = .int .i64 ((i : Nat) : Int) ∧ KnownW w wr ∧ TextsW g wr
def Rel2 (w : World) (g k : Nat) (vm : Value) (wr : World) : Prop := ∃ m, m + k = 17 ∧ vm = .int .i64 ((m : Nat) : Int) ∧ KnownW w wr ∧ EdgesW g wr
def Rel4 (w : World) (g k : Nat) (vo : Value) (wr : World) : Prop := ∃ o, o + 3 * k = 18 ∧ vo = .int .i64 ((o : Nat) : Int) ∧ KnownW w wr ∧ EdgesW g wr

set_option maxHeartbeats 8000000 in
set_option maxRecDepth 20000 in
theorem known_walk (w : World) (hg : Glob w) (hE : ErrW w) (ht : TabW w) :
    Calls Tryz.prog 3 #[] w fun e w' => e = .returned (.bool true) ∧ Below w.heap.size w w' := by
  have HR1 := Lib.hid (Round_of (-7) 1 2 (-4) 0 ⟨by decide, by decide⟩ ⟨by decide, by decide⟩ ⟨by decide, by decide⟩ (by kernel_rfl))
  have HR2 := Lib.hid (Round_of 7 1 2 4 0 ⟨by decide, by decide⟩ ⟨by decide, by decide⟩ ⟨by decide, by decide⟩ (by kernel_rfl))
  have HR3 := Lib.hid (Round_of 5 1 4 1 0 ⟨by decide, by decide⟩ ⟨by decide, by decide⟩ ⟨by decide, by decide⟩ (by kernel_rfl))
  have HM1 := Lib.hid (MulDiv_of 4611686018427387904 6 3 0 10 ⟨by decide, by decide⟩ ⟨by decide, by decide⟩ ⟨by decide, by decide⟩ (by kernel_rfl))
  have HM2 := Lib.hid (MulDiv_of 4611686018427387904 3 2 6917529027641081856 0 ⟨by decide, by decide⟩ ⟨by decide, by decide⟩ ⟨by decide, by decide⟩ (by kernel_rfl))
  have HM3 := Lib.hid (MulDiv_of 1 1 0 0 2 ⟨by decide, by decide⟩ ⟨by decide, by decide⟩ ⟨by decide, by decide⟩ (by kernel_rfl))
  have HP1 := Lib.hid (Print_of 98304 _ ⟨by decide, by decide⟩ prints1)
  have HP2 := Lib.hid (Print_of 0 _ ⟨by decide, by decide⟩ prints2)
  have HP3 := Lib.hid (Print_of (-9223372036854775808) _ ⟨by decide, by decide⟩ prints3)
  have HD1 := Lib.hid (Read_of [45, 48, 46, 48, 48, 48, 48, 49] (-1) 0 (by decide) (by kernel_rfl))
  have HD2 := Lib.hid (Read_of [48, 46, 48, 48, 48, 48, 48, 55, 54, 50, 57, 51, 57, 52, 53, 51, 49, 50] 0 0 (by decide) (by kernel_rfl))
  have HD3 := Lib.hid (Read_of [48, 46, 48, 48, 48, 48, 48, 55, 54, 50, 57, 51, 57, 52, 53, 51, 49, 50, 53] 1 0 (by decide) (by kernel_rfl))
  have HN1 := Lib.hid (near_walk 7 3 (-2) ⟨by decide, by decide⟩ ⟨by decide, by decide⟩ ⟨by decide, by decide⟩)
  have HN2 := Lib.hid (near_walk (-7) 3 2 ⟨by decide, by decide⟩ ⟨by decide, by decide⟩ ⟨by decide, by decide⟩)
  have HW := Lib.hid works_any
  have K0 := Lib.hid (show KnownW w w from ⟨Below.refl _ _, hg, hE, ht⟩)
  clear hg hE ht
  go_enter Tryz.func3, Tryz.ntmps3
  go_wp2_with fail
  refine (HR1.out _).mono ?_
  rintro e w1 ⟨rfl, hb⟩
  have K1 := Lib.hid (K0.out.step hb)
  clear hb
  go_wp2_with fail
  refine (HR2.out _).mono ?_
  rintro e w2 ⟨rfl, hb⟩
  have K2 := Lib.hid (K1.out.step hb)
  clear hb
  go_wp2_with fail
  refine (HR3.out _).mono ?_
  rintro e w3 ⟨rfl, hb⟩
  have K3 := Lib.hid (K2.out.step hb)
  clear hb
  go_wp2_with fail
  refine (HM1.out _).mono ?_
  rintro e w4 ⟨rfl, hb⟩
  have K4 := Lib.hid (K3.out.step hb)
  clear hb
  go_wp2_with fail
  refine (HM2.out _).mono ?_
  rintro e w5 ⟨rfl, hb⟩
  have K5 := Lib.hid (K4.out.step hb)
  clear hb
  go_wp2_with fail
  refine (HM3.out _).mono ?_
  rintro e w6 ⟨rfl, hb⟩
  have K6 := Lib.hid (K5.out.step hb)
  clear hb
  go_wp2_with fail
  refine (HP1.out _ K6.out.tab).mono ?_
  rintro e w7 ⟨rfl, hb⟩
  have K7 := Lib.hid (K6.out.step hb)
  clear hb
  go_wp2_with fail
  refine (HP2.out _ K7.out.tab).mono ?_
  rintro e w8 ⟨rfl, hb⟩
  have K8 := Lib.hid (K7.out.step hb)
  clear hb
  go_wp2_with fail
  refine (HP3.out _ K8.out.tab).mono ?_
  rintro e w9 ⟨rfl, hb⟩
  have K9 := Lib.hid (K8.out.step hb)
  clear hb
  go_wp2_with fail
  go_loopg [16] 24 (fun k vi wr => Rel1 w w9.heap.size k vi wr)
  case atStart =>
    refine ⟨0, by omega, rfl, K9.out.step ((Below.refl _ _).alloc (Nat.le_refl _) _), ?_⟩
    exact texts_new w9 [_, _, _, _, _, _, _, _, _, _, _, _, _, _, _, _, _, _, _, _, _, _, _, _] _ rfl (by rfl)
  case round =>
    obtain ⟨i, hik, rfl, hk, htx⟩ := hrel
    have KR := Lib.hid hk
    have TX := Lib.hid htx
    have hgl := htx.1
    clear hk htx
    rcases Nat.eq_zero_or_pos gk with h0 | h0
    · obtain rfl := h0
      obtain rfl : i = 24 := by omega
      clear TX hgl
      go_wp2_with fail
      refine (HD1.out _ KR.out.glob KR.out.err).mono ?_
      rintro e w10 ⟨rfl, hb⟩
      have K10 := Lib.hid (KR.out.step hb)
      clear hb
      go_wp2_with fail
      refine (HD2.out _ K10.out.glob K10.out.err).mono ?_
      rintro e w11 ⟨rfl, hb⟩
      have K11 := Lib.hid (K10.out.step hb)
      clear hb
      go_wp2_with fail
      refine (HD3.out _ K11.out.glob K11.out.err).mono ?_
      rintro e w12 ⟨rfl, hb⟩
      have K12 := Lib.hid (K11.out.step hb)
      clear hb
      go_wp2_with fail
      go_loopg [24, 25, 26] 17 (fun k vm v25 v26 wr => Rel2 w w12.heap.size k vm wr)
      case atStart =>
        refine ⟨0, by omega, rfl, K12.out.step ((Below.refl _ _).alloc (Nat.le_refl _) _), ?_⟩
        exact edges_new w12 [_, _, _, _, _, _, _, _, _, _, _, _, _, _, _, _, _] _ rfl (by rfl)
      case round =>
        obtain ⟨m, hmk, rfl, hk, hed⟩ := hrel
        obtain ⟨k1, hk1⟩ : ∃ k1, k1 = gk := ⟨_, rfl⟩
        rw [← hk1] at hmk
        have HK1 := Lib.hid hk1
        have KM := Lib.hid hk
        have EM := Lib.hid hed
        clear hk hed hk1
        rcases Nat.eq_zero_or_pos k1 with h0 | h0
        · obtain rfl := h0
          obtain rfl : m = 17 := by omega
          go_wp2_with fail
          refine (HN1.out _ KM.out.glob).mono ?_
          rintro e w13 ⟨rfl, hb⟩
          have K13 := Lib.hid (KM.out.step hb)
          clear hb
          go_wp2_with fail
          refine (HN2.out _ K13.out.glob).mono ?_
          rintro e w14 ⟨rfl, hb⟩
          have K14 := Lib.hid (K13.out.step hb)
          clear hb
          go_wp2_with fail
          refine (HW.out _ K14.out.glob).mono ?_
          rintro e w15 ⟨rfl, hb⟩
          have K15 := Lib.hid (K14.out.step hb)
          clear hb
          go_wp2_with fail
          go_ret
          exact ⟨rfl, K15.out.below⟩
        · have hm17 : m < 17 := by omega
          have hmI : (m : Int) < 17 := by omega
          have hm0 : (0 : Int) ≤ (m : Int) := Int.natCast_nonneg _
          go_wp2_with fail
          go_loopg [25, 26] 17 (fun k vn v26 wr => Rel2 w w12.heap.size k vn wr)
          case atStart => exact ⟨0, by omega, rfl, KM.out, EM.out⟩
          case round =>
            obtain ⟨n, hnk, rfl, hk, hed⟩ := hrel
            obtain ⟨k2, hk2⟩ : ∃ k2, k2 = gk := ⟨_, rfl⟩
            rw [← hk2] at hnk
            have HK2 := Lib.hid hk2
            have KN := Lib.hid hk
            have EN := Lib.hid hed
            clear hk hed hk2
            rcases Nat.eq_zero_or_pos k2 with h2 | h2
            · obtain rfl := h2
              obtain rfl : n = 17 := by omega
              obtain ⟨x, hx, hcx⟩ := EN.out.2 m hm17
              have HX := Lib.hid hx
              clear hx
              go_wp2_with fail
              refine (prints_walk x HX.out _ KN.out.glob KN.out.tab).mono ?_
              rintro e w16 ⟨rfl, hb⟩
              have K16 := Lib.hid (KN.out.step hb)
              have E16 := Lib.hid (EN.out.step hb)
              clear hb hcx
              go_wp2_with fail
              go_roundg (k1 - 1)
              case measure => have := HK1.out; omega
              case rel => exact ⟨m + 1, by omega, by first | rfl | exact congrArg _ (by omega), K16.out, E16.out⟩
            · have hn17 : n < 17 := by omega
              have hnI : (n : Int) < 17 := by omega
              have hn0 : (0 : Int) ≤ (n : Int) := Int.natCast_nonneg _
              go_wp2_with fail
              go_loopg [26] 6 (fun k vo wr => Rel4 w w12.heap.size k vo wr)
              case atStart => exact ⟨0, by omega, rfl, KN.out, EN.out⟩
              case round =>
                obtain ⟨o, hok, rfl, hk, hed⟩ := hrel
                have KD := Lib.hid (hk.step ((Below.refl _ _).drew))
                have ED := Lib.hid (hed.step ((Below.refl _ _).drew))
                have hgl := hed.1
                obtain ⟨x, hx, hcx⟩ := hed.2 m hm17
                obtain ⟨y, hy, hcy⟩ := hed.2 n hn17
                have HX := Lib.hid hx
                have HY := Lib.hid hy
                have HED := Lib.hid hed
                clear hk hx hy hed
                rcases Nat.eq_zero_or_pos gk with h4 | h4
                · obtain rfl := h4
                  obtain rfl : o = 18 := by omega
                  obtain ⟨t, ht⟩ : ∃ t, t = IntKind.u16.wrap x := ⟨_, rfl⟩
                  have HT : Hid (0 ≤ t ∧ t ≤ 65535) := Lib.hid (by rw [ht, IntKind.wrap_u16]; omega)
                  have q1 : IntKind.u16.wrap x = t := ht.symm
                  clear ht
                  go_wp2_with fail
                  go_region_held3 (fun w' => w'.cell? ⟨w12.heap.size, m, none⟩ = some (.int .i64 x) ∧ w'.cell? ⟨w12.heap.size, n, none⟩ = some (.int .i64 y))
                    (first
                      | go_keep
                      | (have hz2 := hb1.size; simp at hz2; go_split_ands; refine ⟨?_, ?_⟩ <;> (rw [hb2.cell (by show w12.heap.size < _; omega)]; assumption))
                      | (go_split_ands; refine ⟨?_, ?_⟩ <;> (rw [hb1.cell (by simp; omega)]; assumption)))
                    (first
                      | (go_at_call 10; refine (sums_walk x y HX.out HY.out _ KD.out.glob).mono ?_; rintro e w20 ⟨rfl, hb1⟩)
                      | (go_at_call 11; refine (scales_walk x y t HX.out HY.out HT.out _ (KD.out.step hb1).glob).mono ?_; rintro e w21 ⟨rfl, hb2⟩))
                  all_goals go_wp2_with fail
                  have K21 := Lib.hid ((KD.out.step hb1).step hb2)
                  have E21 := Lib.hid ((ED.out.step hb1).step hb2)
                  go_roundg (k2 - 1)
                  case measure => have := HK2.out; omega
                  case rel => exact ⟨n + 1, by omega, by first | rfl | exact congrArg _ (by omega), K21.out, E21.out⟩
                · have ho17 : o < 17 := by omega
                  have hoI : (o : Int) < 17 := by omega
                  have ho0 : (0 : Int) ≤ (o : Int) := Int.natCast_nonneg _
                  obtain ⟨z, hz, hcz⟩ := HED.out.2 o ho17
                  have HZ := Lib.hid hz
                  clear hz
                  go_wp2_with fail
                  go_region_held3 (fun w' => w'.cell? ⟨w12.heap.size, m, none⟩ = some (.int .i64 x) ∧ w'.cell? ⟨w12.heap.size, n, none⟩ = some (.int .i64 y) ∧ w'.cell? ⟨w12.heap.size, o, none⟩ = some (.int .i64 z))
                    (first
                      | go_keep
                      | (go_split_ands; refine ⟨?_, ?_, ?_⟩ <;> (rw [hb1.cell (by simp; omega)]; assumption)))
                    (first
                      | (go_at_call 9; refine (quotients_walk x y z HX.out HY.out HZ.out _ KD.out.glob).mono ?_; rintro e w20 ⟨rfl, hb1⟩))
                  all_goals go_wp2_with fail
                  have K21 := Lib.hid (KD.out.step hb1)
                  have E21 := Lib.hid (ED.out.step hb1)
                  go_roundg (gk - 1)
                  case measure => omega
                  case rel => exact ⟨o + 3, by omega, by first | rfl | exact congrArg _ (by omega), K21.out, E21.out⟩
    · have hi24 : i < 24 := by omega
      obtain ⟨s, hs⟩ := TX.out.2 i hi24
      have q1 : IntKind.u8.wrap (i : Int) = (i : Int) := by rw [IntKind.wrap_u8]; omega
      have hiI : (i : Int) < 24 := by omega
      go_wp2_with fail
      refine (reads_walk s i (by omega) _ KR.out.glob KR.out.err).mono ?_
      rintro e w10 ⟨rfl, hb⟩
      have KR2 := Lib.hid (KR.out.step hb)
      have TX2 := Lib.hid (TX.out.step hb)
      clear hb hs
      go_wp2_with fail
      go_roundg (gk - 1)
      case measure => omega
      case rel => exact ⟨i + 1, by omega, by first | rfl | exact congrArg _ (by omega), KR2.out, TX2.out⟩
end Go.Proofs.YtpodgmibghcjdaaGreatDoor
