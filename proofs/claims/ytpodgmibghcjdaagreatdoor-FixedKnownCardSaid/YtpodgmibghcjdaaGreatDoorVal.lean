/-
  fixed.value and scaledPart.
-/
import Derived.Test.YtpodgmibghcjdaaGreatDoorSpl
import Derived.Lib.SmallJoins
import Derived.Lib.Repeat
namespace Go.Proofs.YtpodgmibghcjdaaGreatDoor
open Go Go.RowKit

/-- the number of digits, behind a number -/
def numF (a : Nat) : List UInt8 → Nat
  | [] => a
  | c :: r => numF (a * 10 + (c.toNat - 48)) r
/-- the number of digits -/
def numL (l : List UInt8) : Nat := numF 0 l

theorem numF_ge (l : List UInt8) : ∀ a : Nat, a ≤ numF a l := by
  induction l with
  | nil => intro a; exact Nat.le_refl _
  | cons c r ih =>
    intro a
    have h := ih (a * 10 + (c.toNat - 48))
    show a ≤ numF (a * 10 + (c.toNat - 48)) r
    omega

theorem numF_lt (l : List UInt8) : ∀ a k : Nat, l.all isDig = true → a < 10 ^ k → numF a l < 10 ^ (k + l.length) := by
  induction l with
  | nil => intro a k _ h; exact h
  | cons c r ih =>
    intro a k hd h
    rw [List.all_cons, Bool.and_eq_true, isDig_iff] at hd
    have h2 : a * 10 + (c.toNat - 48) < 10 ^ (k + 1) := by rw [Nat.pow_succ]; omega
    have h3 := ih _ (k + 1) hd.2 h2
    rw [List.length_cons, show k + (r.length + 1) = k + 1 + r.length by omega]
    exact h3

theorem parse_ok (l : List UInt8) : ∀ a : Nat, l.all isDig = true → numF a l ≤ 18446744073709551615 → Lib.parseUintM 18446744073709551615 a l = .ok (numF a l) := by
  induction l with
  | nil => intro a _ _; rfl
  | cons c r ih =>
    intro a hd h
    rw [List.all_cons, Bool.and_eq_true, isDig_iff] at hd
    have hge := numF_ge r (a * 10 + (c.toNat - 48))
    have h2 : numF (a * 10 + (c.toNat - 48)) r ≤ 18446744073709551615 := h
    rw [Lib.parseUintM, if_pos hd.1, if_neg (by omega), if_neg (by omega)]
    exact ih _ hd.2 h2

theorem parse_range (l : List UInt8) : ∀ a : Nat, l.all isDig = true → 18446744073709551615 < numF a l → a ≤ 18446744073709551615 → Lib.parseUintM 18446744073709551615 a l = .range := by
  induction l with
  | nil =>
    intro a _ h ha
    have h2 : 18446744073709551615 < a := h
    omega
  | cons c r ih =>
    intro a hd h _
    rw [List.all_cons, Bool.and_eq_true, isDig_iff] at hd
    rw [Lib.parseUintM, if_pos hd.1]
    by_cases h1 : 1844674407370955162 ≤ a
    · rw [if_pos h1]
    · rw [if_neg h1]
      by_cases h2 : 18446744073709551615 < a * 10 + (c.toNat - 48)
      · rw [if_pos h2]
      · rw [if_neg h2]
        exact ih _ hd.2 h (by omega)

theorem digits_ne {l : List UInt8} (h : digitsB l = true) : l.all isDig = true ∧ l ≠ [] := by
  simp only [digitsB, Bool.and_eq_true] at h
  exact ⟨h.1, by rintro rfl; simp at h⟩

theorem parseB_ok {l : List UInt8} (h : digitsB l = true) (hn : numL l ≤ 18446744073709551615) : Lib.parseUintB 64 l = .ok (numL l) := by
  obtain ⟨h1, h2⟩ := digits_ne h
  unfold Lib.parseUintB
  rw [if_neg h2]
  exact parse_ok l 0 h1 hn

theorem parseB_range {l : List UInt8} (h : digitsB l = true) (hn : 18446744073709551615 < numL l) : Lib.parseUintB 64 l = .range := by
  obtain ⟨h1, h2⟩ := digits_ne h
  unfold Lib.parseUintB
  rw [if_neg h2]
  exact parse_range l 0 h1 hn (by omega)

theorem value_ok (l : List UInt8) (hl : l.length ≤ 1000) (h : digitsB l = true) (hn : numL l ≤ 18446744073709551615) (w : World) :
    Calls Tryz.prog 30 #[.string ⟨l.toArray⟩] w fun e w' => e = .returned (.int .u64 (numL l : Int)) ∧ Below w.heap.size w w' := by
  have hp := Tryz.strconv_ParseUint_10_at64_ok ⟨l.toArray⟩ (by simp [ByteArray.size]; omega) (numL l) (by simpa using parseB_ok h hn)
  have HP := Lib.hid hp
  clear hp hn h
  go_enter Tryz.func30, Tryz.ntmps30
  go_wp2_with fail
  refine (HP.out _).mono ?_
  rintro e w' ⟨rfl, hw⟩
  have hb : Below w.heap.size w w' := by
    rcases hw with rfl | rfl
    · exact Below.refl _ _
    · exact Joins.below_bytesWorld _ _ _ _ (Nat.le_refl _)
  clear hw
  go_wp2_with fail
  go_ret
  exact ⟨rfl, hb⟩

theorem value_range (l : List UInt8) (hl : l.length ≤ 1000) (h : digitsB l = true) (hn : 18446744073709551615 < numL l) (w : World)
    (hv : ∃ ev, w.cell? ⟨5, 0, none⟩ = some ev ∧ (ev = .nilIface ∨ ∃ te pe, ev = .iface te pe)) :
    Calls Tryz.prog 30 #[.string ⟨l.toArray⟩] w fun e w' => e = gone 10 ∧ Below w.heap.size w w' := by
  obtain ⟨ev, hv, hev⟩ := hv
  have hp := Tryz.strconv_ParseUint_10_at64_range ⟨l.toArray⟩ (by simp [ByteArray.size]; omega) (by simpa using parseB_range h hn) ev w hv hev
  have HP := Lib.hid hp
  clear hp hn h hv
  unfold gone
  go_enter Tryz.func30, Tryz.ntmps30
  go_wp2_with fail
  refine HP.out.mono ?_
  rintro e w' ⟨N, rfl, _, _, hb⟩
  go_wp2_with fail
  exact ⟨rfl, rfl, hb⟩

/-- the first 17 decimals -/
def dec17 (l : List UInt8) : List UInt8 := (l ++ List.replicate 17 48).take 17
/-- the scaled points of decimals, rounded -/
def scaledN (l : List UInt8) : Nat := (numL (dec17 l) * 131072 + 100000000000000000) / 200000000000000000

theorem dec17_digits {l : List UInt8} (h : l.all isDig = true) : digitsB (dec17 l) = true ∧ (dec17 l).length = 17 ∧ numL (dec17 l) < 100000000000000000 := by
  have hlen : (dec17 l).length = 17 := by simp [dec17]
  have hall : (dec17 l).all isDig = true := by
    rw [List.all_eq_true]
    intro c hc
    have hm := List.mem_of_mem_take hc
    rw [List.mem_append] at hm
    rcases hm with hm | hm
    · exact List.all_eq_true.1 h c hm
    · rw [List.eq_of_mem_replicate hm]; decide
  refine ⟨?_, hlen, ?_⟩
  · simp only [digitsB, hall, Bool.true_and]
    cases hd : dec17 l with
    | nil => rw [hd] at hlen; simp at hlen
    | cons _ _ => rfl
  · have := numF_lt (dec17 l) 0 0 hall (by simp)
    rw [hlen] at this
    simpa [numL] using this

theorem round_scaled (u : Nat) (hu : u < 100000000000000000) :
    roundE (u : Int) 65536 100000000000000000 = .returned (.int .i64 (((u * 131072 + 100000000000000000) / 200000000000000000 : Nat) : Int)) ∧ (u * 131072 + 100000000000000000) / 200000000000000000 ≤ 65536 := by
  have hv : (u * 131072 + 100000000000000000) / 200000000000000000 ≤ 65536 := by omega
  refine ⟨?_, hv⟩
  unfold roundE
  rw [if_neg (by decide)]
  have hneg : neg3 (u : Int) 65536 100000000000000000 = false := by simp [neg3]
  rw [hneg]
  have hc : cutQ (u : Int) 65536 100000000000000000 (fun r => decide ((100000000000000000 : Int).natAbs ≤ 2 * r)) = (u * 131072 + 100000000000000000) / 200000000000000000 := by
    unfold cutQ
    simp only [Int.natAbs_natCast, show (65536 : Int).natAbs = 65536 from rfl, show (100000000000000000 : Int).natAbs = 100000000000000000 from rfl, decide_eq_true_eq]
    split <;> rename_i h <;> first | omega | (simp at h; omega)
  rw [hc]
  unfold endQ
  simp only [Bool.false_eq_true, if_false]
  rw [if_neg (by omega)]

theorem ext17 (l : List UInt8) : ((ByteArray.mk l.toArray) ++ (ByteArray.mk #[48, 48, 48, 48, 48, 48, 48, 48, 48, 48, 48, 48, 48, 48, 48, 48, 48])).extract 0 17 = ByteArray.mk (dec17 l).toArray := by
  apply ByteArray.ext
  apply Array.toList_inj.1
  simp [dec17, ByteArray.data_extract, ByteArray.data_append]

theorem scaled_any (l : List UInt8) (hl : l.length ≤ 1000) (h : l.all isDig = true) (w : World) :
    Calls Tryz.prog 32 #[.string ⟨l.toArray⟩] w fun e w' => e = .returned (.int .u64 (scaledN l : Int)) ∧ Below w.heap.size w w' := by
  obtain ⟨hd1, hd2, hd3⟩ := dec17_digits h
  obtain ⟨hr1, hr2⟩ := round_scaled _ hd3
  have hrep := fun w => Tryz.strings_Repeat ⟨#[48]⟩ 17 w (by omega) (by decide)
  have hval := fun w => value_ok (dec17 l) (by omega) hd1 (by omega) w
  have hrnd := fun w => rounded_any (numL (dec17 l)) 65536 100000000000000000 ⟨by omega, by omega⟩ ⟨by decide, by decide⟩ ⟨by decide, by decide⟩ w
  simp only [hr1] at hrnd
  have hsc : scaledN l = (numL (dec17 l) * 131072 + 100000000000000000) / 200000000000000000 := rfl
  rw [← hsc] at hr2
  simp only [← hsc] at hrnd
  have hrep' : (Lib.repeatL [48] 17 : List UInt8) = List.replicate 17 48 := by decide
  generalize hV : scaledN l = V at *
  generalize hU : numL (dec17 l) = U at *
  have HR := Lib.hid hrep
  have HV := Lib.hid hval
  have HW := Lib.hid hrnd
  clear hrep hval hrnd hV hU hsc hd1 hr1
  go_enter Tryz.func32, Tryz.ntmps32
  go_wp2_with fail
  refine (HR.out _).mono ?_
  rintro e w1 ⟨rfl, hb1⟩
  go_wp2_with fail
  rw [ext17]
  refine (HV.out _).mono ?_
  rintro e w2 ⟨rfl, hb2⟩
  have hb3 := hb1.trans (hb2.mono hb1.size)
  have hU : (U : Int) ≤ 100000000000000000 := by omega
  go_wp2_with fail
  refine (HW.out _).mono ?_
  rintro e w4 ⟨rfl, hb4⟩
  have hb5 := hb3.trans (hb4.mono hb3.size)
  go_wp2_with fail
  go_ret
  exact ⟨rfl, hb5⟩
end Go.Proofs.YtpodgmibghcjdaaGreatDoor
