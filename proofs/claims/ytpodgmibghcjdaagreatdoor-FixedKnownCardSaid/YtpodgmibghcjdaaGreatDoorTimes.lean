/-
  The document's long numbers: times.
-/
import Derived.Test.YtpodgmibghcjdaaGreatDoorNumber
import Derived.Deep.QuietTactic
import Derived.BigQuiet
namespace Go.Proofs.YtpodgmibghcjdaaGreatDoor
open Go Go.RowKit

/-- a digit's cell -/
def digV (d : Nat) : Value := .int .u32 (d : Int)

theorem made_zero (n : Nat) : madeCells (Value.int .u32 0).cells n = ((List.replicate n 0).map digV).toArray := by
  apply Array.ext
  · simp [size_madeCells]
  · intro i h1 h2
    simp [madeCells, Value.cells, digV, Nat.mod_one]

theorem longN_set (l : List Nat) : ∀ (p y : Nat), p < l.length → longN (l.set p y) + 65536 ^ p * l.getD p 0 = longN l + 65536 ^ p * y := by
  induction l with
  | nil => intro p y h; simp at h
  | cons d t ih =>
    intro p y h
    cases p with
    | zero => simp [longN]; omega
    | succ p =>
      have := ih p y (by simpa using h)
      rw [List.set_cons_succ, longN, longN, List.getD_cons_succ, Nat.pow_succ]
      have e1 : 65536 ^ p * 65536 * t.getD p 0 = 65536 * (65536 ^ p * t.getD p 0) := by rw [Nat.mul_comm (65536 ^ p) 65536, Nat.mul_assoc]
      have e2 : 65536 ^ p * 65536 * y = 65536 * (65536 ^ p * y) := by rw [Nat.mul_comm (65536 ^ p) 65536, Nat.mul_assoc]
      rw [e1, e2]
      omega

/-- the row that times makes -/
structure TimesO (w : World) (L : Nat) (o : List Nat) (wr : World) : Prop where
  below : Below w.heap.size w wr
  block : wr.heap[w.heap.size]? = some (.cells (o.map digV).toArray 68 (0, 0))
  len : o.length = L
  dig : ∀ d ∈ o, d < 65536

theorem TimesO.cell {w wr : World} {L : Nat} {o : List Nat} (h : TimesO w L o wr) (p : Nat) (hp : p < L) : wr.cell? ⟨w.heap.size, p, none⟩ = some (.int .u32 ((o.getD p 0 : Nat) : Int)) := by
  rw [cell_of_row wr w.heap.size p _ _ _ h.block]
  have := h.len
  simp [digV, show p < o.length by omega]

theorem TimesO.frozen {w wr : World} {L : Nat} {o : List Nat} (h : TimesO w L o wr) (p : Nat) : wr.frozen? ⟨w.heap.size, p, none⟩ = false := by
  have := h.block
  simp [World.frozen?, this]

theorem TimesO.put {w wr : World} {L : Nat} {o : List Nat} (h : TimesO w L o wr) (p y : Nat) (hy : y < 65536) : TimesO w L (o.set p y) (wr.setCell ⟨w.heap.size, p, none⟩ (.int .u32 (y : Int))) where
  below := h.below.setCell (p := ⟨w.heap.size, p, none⟩) (Nat.le_refl _) _
  block := by
    have := h.block
    simp [World.setCell, Array.getElem?_modify, this, digV, List.map_set]
  len := by rw [List.length_set]; exact h.len
  dig := fun d hd => by
    rcases List.mem_or_eq_of_mem_set hd with h1 | h1
    · exact h.dig d h1
    · omega

theorem TimesO.drewN {w wr : World} {L : Nat} {o : List Nat} (h : TimesO w L o wr) (n : Nat) : TimesO w L o (wr.drewN n) where
  below := h.below.trans ⟨rfl, rfl, rfl, Nat.le_refl _, fun _ _ => rfl⟩
  block := h.block
  len := h.len
  dig := h.dig

theorem TimesO.dig_at {w wr : World} {L : Nat} {o : List Nat} (h : TimesO w L o wr) (p : Nat) : o.getD p 0 < 65536 := by
  by_cases hp : p < o.length
  · simp only [List.getD_eq_getElem?_getD, List.getElem?_eq_getElem hp, Option.getD_some]; exact h.dig _ (List.getElem_mem _)
  · rw [List.getD_eq_getElem?_getD, List.getElem?_eq_none (by omega)]; decide

theorem times_step {b o : List Nat} {i j c ai bj x Z : Nat} (h : longN o + 65536 ^ (i + j) * c = Z + 65536 ^ i * (ai * longN (b.take j))) (hb : bj = b.getD j 0) (hp : i + j < o.length) (hx : x = o.getD (i + j) 0 + ai * bj + c) :
    longN (o.set (i + j) (x % 65536)) + 65536 ^ (i + (j + 1)) * (x / 65536) = Z + 65536 ^ i * (ai * longN (b.take (j + 1))) := by
  have hs := longN_set o (i + j) (x % 65536) hp
  have ht := longN_take b j
  rw [← hb] at ht
  rw [ht, show i + (j + 1) = (i + j) + 1 by omega, Nat.pow_succ, Nat.mul_assoc (65536 ^ (i + j))]
  have hd := Nat.mod_add_div x 65536
  have e : 65536 ^ i * (ai * (longN (b.take j) + 65536 ^ j * bj)) = 65536 ^ i * (ai * longN (b.take j)) + 65536 ^ (i + j) * (ai * bj) := by
    rw [Nat.mul_add, Nat.mul_add, Nat.pow_add, Nat.mul_assoc, Nat.mul_left_comm ai]
  rw [e]
  generalize 65536 ^ (i + j) = P at *
  have e2 : P * (x % 65536) + P * (65536 * (x / 65536)) = P * (o.getD (i + j) 0) + P * (ai * bj) + P * c := by
    rw [← Nat.mul_add, hd, hx, Nat.mul_add, Nat.mul_add]
  omega

theorem longN_zeros (n : Nat) : longN (List.replicate n 0) = 0 := by
  induction n with
  | zero => rfl
  | succ n ih => rw [List.replicate_succ, longN, ih]

theorem timesO_long {w wr : World} {L : Nat} {o : List Nat} (h : TimesO w L o wr) (hl : L ≤ 100000) : LongR wr (.slice (some ⟨w.heap.size, 0, none⟩) L L) o := by
  have hlen := h.len
  refine ⟨h.dig, by omega, some ⟨w.heap.size, 0, none⟩, L, by rw [hlen], by omega, by omega, fun _ => ⟨w.heap.size, rfl, ?_, fun j hj => ?_⟩⟩
  · rcases Nat.lt_or_ge w.heap.size wr.heap.size with h' | h'
    · exact h'
    · have := h.block; rw [Array.getElem?_eq_none h'] at this; cases this
  · rw [h.cell j (by omega)]; simp [hj]

/-- at the head of each outer round of times -/
def TimesRel (w : World) (a b : List Nat) (N M k : Nat) (vi : Value) (wr : World) : Prop :=
  ∃ i o, i + k = N ∧ vi = .int .i64 ((i : Nat) : Int) ∧ TimesO w (N + M) o wr ∧ longN o = longN (a.take i) * longN b ∧ ∀ p, i + M ≤ p → o.getD p 0 = 0

/-- at the head of each inner round of times -/
def TimesIn (w : World) (b : List Nat) (M L i ai Z k : Nat) (vc vk : Value) (wr : World) : Prop :=
  ∃ j o c, j + k = M ∧ vk = .int .i64 ((j : Nat) : Int) ∧ vc = .int .u64 ((c : Nat) : Int) ∧ c < 65536 ∧ TimesO w L o wr ∧ longN o + 65536 ^ (i + j) * c = Z + 65536 ^ i * (ai * longN (b.take j)) ∧ ∀ p, i + M ≤ p → o.getD p 0 = 0

set_option maxHeartbeats 2000000 in
set_option maxRecDepth 20000 in
theorem refTimes_any (va vb : Value) (a b : List Nat) (w : World) (ha : LongR w va a) (hbv : LongR w vb b) (hl : a.length + b.length ≤ 100000) :
    Calls Tryz.prog 49 #[va, vb] w fun e w' => ∃ v' l', e = .returned v' ∧ LongR w' v' l' ∧ longN l' = longN a * longN b ∧ l'.length ≤ a.length + b.length ∧ Below w.heap.size w w' := by
  obtain ⟨i0, hi, hz0, hz1, hz2⟩ := info_parts infoU32
  obtain ⟨A, cap, rfl, hcap, hcap2, hx⟩ := ha.at_
  obtain ⟨B, capb, rfl, hcapb, hcapb2, hxb⟩ := hbv.at_
  have HX := Lib.hid hx
  have HXB := Lib.hid hxb
  have HA := Lib.hid ha
  have HB := Lib.hid hbv
  obtain ⟨N, hN⟩ : ∃ N, N = a.length := ⟨_, rfl⟩
  obtain ⟨M, hM⟩ : ∃ M, M = b.length := ⟨_, rfl⟩
  rw [← hN, ← hM] at hl
  rw [← hN] at hcap
  rw [← hM] at hcapb
  have HN := Lib.hid hN
  have HM := Lib.hid hM
  rw [← hN, ← hM]
  clear hx ha hN hxb hbv hM
  have hmk : (Instr.makeSlice 70 (.int .i64 ((N : Int) + (M : Int))) (.int .i64 ((N : Int) + (M : Int)))).run Tryz.prog w =
      .ok (.slice (some ⟨w.heap.size, 0, none⟩) (N + M) (N + M)) (w.alloc (.cells ((List.replicate (N + M) 0).map digV).toArray 68)) := by
    have h := run_make (P := Tryz.prog) w 70 68 i0 (.int .u32 0) Tryz.underlying70 hi hz0 .i64 .i64 ((N : Int) + (M : Int)) ((N : Int) + (M : Int)) (by omega) (by omega) (by rw [hz2]; omega) (by omega)
    rw [h, hz1, show ((N : Int) + (M : Int)).toNat = N + M by omega, Nat.mul_one, made_zero]
  obtain ⟨W0, hW0⟩ : ∃ W0, W0 = w.alloc (.cells ((List.replicate (N + M) 0).map digV).toArray 68) := ⟨_, rfl⟩
  rw [← hW0] at hmk
  have hb0 : Below w.heap.size w W0 := by rw [hW0]; exact (Below.refl _ w).alloc (Nat.le_refl _) _
  have hk0 : W0.heap[w.heap.size]? = some (.cells ((List.replicate (N + M) 0).map digV).toArray 68 (0, 0)) := by rw [hW0]; exact heap_alloc_new w _
  have HB0 := Lib.hid hb0
  have HK0 := Lib.hid hk0
  clear hW0 hb0 hk0
  go_enter Tryz.func49, Tryz.ntmps49
  go_wp2_with fail
  go_loopg [6] N (fun k vi wr => TimesRel w a b N M k vi wr)
  case atStart =>
    refine ⟨0, List.replicate (N + M) 0, by omega, rfl, ⟨HB0.out, HK0.out, by simp, fun d hd => by have := List.eq_of_mem_replicate hd; omega⟩, ?_, fun p _ => ?_⟩
    · rw [longN_zeros]; simp [longN]
    · simp [List.getElem?_replicate]; split <;> rfl
  case round =>
    obtain ⟨i, o, hik, rfl, hO, hv, hz⟩ := hrel
    obtain ⟨k1, hk1⟩ : ∃ k1, k1 = gk := ⟨_, rfl⟩
    rw [← hk1] at hik
    have HK1 := Lib.hid hk1
    have HO := Lib.hid hO
    have HV := Lib.hid hv
    have HZ := Lib.hid hz
    clear hO hv hz hk1
    rcases Nat.eq_zero_or_pos k1 with h0 | h0
    · obtain rfl := h0
      obtain rfl : i = N := by omega
      have HP : Hid (LongR wr (.slice (some ⟨w.heap.size, 0, none⟩) (i + M) (i + M)) o) := timesO_long HO.out hl
      go_wp2_with (go_at_call 73; refine (trim_any _ _ _ HP.out).mono ?_; rintro e w' ⟨rfl, v', l', rfl, hl1, hl2, hl3⟩)
      go_ret
      refine ⟨_, l', rfl, hl1, ?_, by have := HO.out.len; omega, HO.out.below⟩
      rw [hl2, HV.out, List.take_of_length_le (by have := HN.out; omega)]
    · have hiN : i < N := by omega
      have hia : i < a.length := by have := HN.out; omega
      obtain ⟨ga, rfl, hga, hcell⟩ := HX.out (by intro e; rw [e] at hia; simp at hia)
      obtain ⟨ai, hai⟩ : ∃ ai, ai = a.getD i 0 := ⟨_, rfl⟩
      have hca : w.cell? ⟨ga, i, none⟩ = some (.int .u32 (ai : Int)) := by rw [hai, hcell i hia]; simp [hia]
      have hai16 : ai < 65536 := by rw [hai]; simp only [List.getD_eq_getElem?_getD, List.getElem?_eq_getElem hia, Option.getD_some]; exact HA.out.dig _ (List.getElem_mem _)
      have HCA := Lib.hid hca
      have HAI := Lib.hid hai
      clear hcell hca hai
      go_wp2_with fail
      go_loopg [7, 8] M (fun k vc vk wr2 => TimesIn w b M (N + M) i ai (longN (a.take i) * longN b) k vc vk wr2)
      case atStart =>
        exact ⟨0, o, 0, by omega, rfl, rfl, by omega, HO.out, by rw [HV.out]; simp [longN], HZ.out⟩
      case round =>
        obtain ⟨j, o2, c, hjk, rfl, rfl, hc, hO2, hv2, hz2'⟩ := hrel
        have HO2 := Lib.hid hO2
        have HV2 := Lib.hid hv2
        have HZ2 := Lib.hid hz2'
        have hcI : (c : Int) ≤ 65535 := by omega
        clear hO2 hv2 hz2'
        rcases Nat.eq_zero_or_pos gk with h1 | h1
        · have hjM : j = M := by omega
          obtain rfl := hjM
          have hfz := HO2.out.frozen (i + j)
          have hcz := HO2.out.cell (i + j) (by omega)
          have hput := HO2.out.put (i + j) c hc
          have HPUT := Lib.hid hput
          clear hput
          go_wp2_with fail
          go_roundg (k1 - 1)
          case measure => have := HK1.out; omega
          case rel =>
            refine ⟨i + 1, o2.set (i + j) c, by omega, by first | rfl | (exact congrArg _ (by omega)), HPUT.out, ?_, ?_⟩
            · have hs := longN_set o2 (i + j) c (by have := HO2.out.len; omega)
              rw [HZ2.out (i + j) (Nat.le_refl _), Nat.mul_zero, Nat.add_zero, HV2.out] at hs
              rw [hs, longN_take a i, ← HAI.out, List.take_of_length_le (l := b) (by have := HM.out; omega), Nat.add_mul, Nat.mul_assoc]
            · intro p hp
              rw [List.getD_eq_getElem?_getD, List.getElem?_set_ne (by omega), ← List.getD_eq_getElem?_getD]
              exact HZ2.out p (by omega)
        · have hjM : j < M := by omega
          have hjb : j < b.length := by have := HM.out; omega
          obtain ⟨gb, rfl, hgb, hcell⟩ := HXB.out (by intro e; rw [e] at hjb; simp at hjb)
          obtain ⟨bj, hbj⟩ : ∃ bj, bj = b.getD j 0 := ⟨_, rfl⟩
          obtain ⟨oj, hoj⟩ : ∃ oj, oj = o2.getD (i + j) 0 := ⟨_, rfl⟩
          have hcb : wr.cell? ⟨gb, j, none⟩ = some (.int .u32 (bj : Int)) := by rw [HO2.out.below.cell hgb, hbj, hcell j hjb]; simp [hjb]
          have hcca : wr.cell? ⟨ga, i, none⟩ = some (.int .u32 (ai : Int)) := by rw [HO2.out.below.cell hga]; exact HCA.out
          have hb16 : bj < 65536 := by rw [hbj]; simp only [List.getD_eq_getElem?_getD, List.getElem?_eq_getElem hjb, Option.getD_some]; exact HB.out.dig _ (List.getElem_mem _)
          have ho16 : oj < 65536 := by rw [hoj]; exact HO2.out.dig_at _
          have hco := HO2.out.cell (i + j) (by omega)
          rw [← hoj] at hco
          have hfz := HO2.out.frozen (i + j)
          obtain ⟨p, hp⟩ : ∃ p, p = ai * bj := ⟨_, rfl⟩
          have hple : p ≤ 65535 * 65535 := by rw [hp]; exact Nat.mul_le_mul (by omega) (by omega)
          have hpI : (ai : Int) * (bj : Int) = (p : Int) := by rw [hp, Int.natCast_mul]
          obtain ⟨x, hx⟩ : ∃ x, x = oj + p + c := ⟨_, rfl⟩
          have hxI : (oj : Int) + (p : Int) + (c : Int) = (x : Int) := by omega
          have hxle : x < 4294967296 := by omega
          obtain ⟨lo, hlo⟩ : ∃ lo, lo = x % 65536 := ⟨_, rfl⟩
          obtain ⟨c2, hc2⟩ : ∃ c2, c2 = x / 65536 := ⟨_, rfl⟩
          have hE : bits BinOp.and IntKind.u64 (x : Int) 65535 = (lo : Int) := by rw [hlo]; exact low16 x (by omega)
          have hr : (x : Int) / 65536 = (c2 : Int) := by omega
          have hloI : (lo : Int) ≤ 65535 := by omega
          have hc2I : c2 < 65536 := by omega
          have hst := times_step (x := x) HV2.out hbj (by have := HO2.out.len; omega) (by rw [hx, hp, hoj])
          rw [← hlo, ← hc2] at hst
          have HST := Lib.hid hst
          have hpI2 : (p : Int) ≤ 4294836225 := by omega
          have hojI : (oj : Int) ≤ 65535 := by omega
          have haiI : (ai : Int) ≤ 65535 := by omega
          have hbjI : (bj : Int) ≤ 65535 := by omega
          have hxI2 : (x : Int) ≤ 4294967295 := by omega
          have q1 : IntKind.i64.wrap ((i : Int) + (j : Int)) = (i : Int) + (j : Int) := by rw [IntKind.wrap_i64]; omega
          have q2 : IntKind.u64.wrap ((ai : Int) * (bj : Int)) = (p : Int) := by rw [hpI, IntKind.wrap_u64]; omega
          have q3 : IntKind.u64.wrap ((oj : Int) + (p : Int)) = (oj : Int) + (p : Int) := by rw [IntKind.wrap_u64]; omega
          have q4 : IntKind.u64.wrap ((oj : Int) + (p : Int) + (c : Int)) = (x : Int) := by rw [hxI, IntKind.wrap_u64]; omega
          have q5 : (0 : Int) ≤ (i : Int) + (j : Int) := by omega
          have q6 : ((i : Int) + (j : Int)).toNat = i + j := by omega
          have q7 : (i : Int) + (j : Int) < (N : Int) + (M : Int) := by omega
          clear hst hp hx hlo hc2 hbj hoj hcell hple hxle
          go_wp2_with fail
          go_quiet (fail)
          go_wp2_with fail
          go_roundg (gk - 1)
          case measure => omega
          case rel =>
            refine ⟨j + 1, o2.set (i + j) lo, c2, by omega, by first | rfl | (exact congrArg _ (by omega)), rfl, hc2I, (HO2.out.drewN nq).put (i + j) lo (by omega), HST.out, ?_⟩
            intro q hq
            rw [List.getD_eq_getElem?_getD, List.getElem?_set_ne (by omega), ← List.getD_eq_getElem?_getD]
            exact HZ2.out q hq
end Go.Proofs.YtpodgmibghcjdaaGreatDoor
