/-
  fixed.digits, split, value.
-/
import Derived.Test.YtpodgmibghcjdaaGreatDoorShelf
import Derived.Test.YtpodgmibghcjdaaGreatDoorQuot
import Derived.WalkKit
import Derived.WalkLawsBesides
import Derived.WalkSpells
import Derived.Deep.LoopGhost
import Derived.Outline
namespace Go.Proofs.YtpodgmibghcjdaaGreatDoor
open Go Go.RowKit

def isDig (c : UInt8) : Bool := 48 ≤ c && c ≤ 57
/-- one or more digits -/
def digitsB (l : List UInt8) : Bool := l.all isDig && !l.isEmpty

theorem isDig_iff (c : UInt8) : isDig c = true ↔ 48 ≤ c.toNat ∧ c.toNat ≤ 57 := by
  simp [isDig, UInt8.le_iff_toNat_le]

theorem take_snoc (s : ByteArray) (k : Nat) (h : k < s.size) : s.data.toList.take (k + 1) = s.data.toList.take k ++ [s[k]] := by
  rw [List.take_succ_eq_append_getElem (by simpa using h)]; rfl

def DigRel (s : ByteArray) (v6 : Value) : Prop := ∃ k : Nat, k ≤ s.size ∧ v6 = .int .i64 (k : Int) ∧ (s.data.toList.take k).all isDig = true

theorem dig_bad (s : ByteArray) (k : Nat) (h : k < s.size) (hb : ¬ (48 ≤ s[k].toNat ∧ s[k].toNat ≤ 57)) : digitsB s.data.toList = false := by
  have h1 : isDig s[k] = false := by rw [← Bool.not_eq_true, isDig_iff]; exact hb
  have hm : s[k] ∈ s.data.toList := Array.mem_toList_iff.2 (Array.getElem_mem (xs := s.data) (by simpa using h))
  simp only [digitsB, Bool.and_eq_false_iff]
  left
  rw [List.all_eq_false]
  exact ⟨_, hm, by simp [h1]⟩

theorem dig_next (s : ByteArray) (k : Nat) (h : k < s.size) (hd : (s.data.toList.take k).all isDig = true) (h1 : 48 ≤ s[k].toNat) (h2 : s[k].toNat ≤ 57) : (s.data.toList.take (k + 1)).all isDig = true := by
  rw [take_snoc s k h, List.all_append, hd]
  simp [(isDig_iff s[k]).2 ⟨h1, h2⟩]

theorem dig_end (s : ByteArray) (k : Nat) (h : ¬ k < s.size) (hd : (s.data.toList.take k).all isDig = true) : digitsB s.data.toList = !s.toList.isEmpty := by
  rw [List.take_of_length_le (by simpa using h)] at hd
  rw [ByteArray.toList_eq]
  simp only [digitsB, hd, Bool.true_and]

set_option maxHeartbeats 400000 in
theorem digits_any (s : ByteArray) (w : World) (hs : s.size ≤ 9223372036854775806) :
    Calls Tryz.prog 57 #[.string s] w fun e w' => e = .returned (.bool (digitsB s.data.toList)) ∧ w = w' := by
  go_enter Tryz.func57, Tryz.ntmps57
  go_wp2
  go_loop [3, 6] (fun _ v6 => DigRel s v6) (fun _ v6 => s.size - (intOf v6).toNat)
  case atStart => exact ⟨0, Nat.zero_le _, rfl, by simp⟩
  case round =>
    obtain ⟨k, hk, rfl, hd⟩ := hrel
    have HD := Lib.hid hd
    clear hd
    by_cases hlt : k < s.size
    · by_cases hc1 : s[k].toNat < 48
      · have hi : ((s[k].toNat : Nat) : Int) < 48 := by omega
        have HX : Hid (digitsB s.data.toList = false) := Lib.hid (dig_bad s k hlt (by omega))
        clear hc1
        go_wp2
        go_ret
        exact ⟨by rw [HX.out]; rfl, rfl⟩
      · by_cases hc2 : 57 < s[k].toNat
        · have hi : ¬ ((s[k].toNat : Nat) : Int) < 48 := by omega
          have hj : (57 : Int) < ((s[k].toNat : Nat) : Int) := by omega
          have HX : Hid (digitsB s.data.toList = false) := Lib.hid (dig_bad s k hlt (by omega))
          clear hc1 hc2
          go_wp2
          go_ret
          exact ⟨by rw [HX.out]; rfl, rfl⟩
        · have hi : ¬ ((s[k].toNat : Nat) : Int) < 48 := by omega
          have hj : ¬ (57 : Int) < ((s[k].toNat : Nat) : Int) := by omega
          have HN : Hid ((s.data.toList.take (k + 1)).all isDig = true) := Lib.hid (dig_next s k hlt HD.out (by omega) (by omega))
          clear hc1 hc2
          go_wp2
          refine ⟨⟨k + 1, by omega, by go_num, HN.out⟩, by simp [intOf]; omega⟩
    · have HX := Lib.hid (dig_end s k hlt HD.out)
      go_wp2
      go_ret
      exact ⟨by rw [HX.out]; rfl, rfl⟩

/-- what fixed.split makes of a text: nothing, or its parts -/
def splitP (l : List UInt8) : Option (Bool × List UInt8 × List UInt8) :=
  let t := Lib.trimPrefix l [45]
  let c := Lib.cut t [46]
  if 40 < l.length then none
  else if !digitsB c.1 then none
  else if c.2.2 && !digitsB c.2.1 then none
  else some (Lib.hasPrefix l [45], c.1, c.2.1)

def splitE (l : List UInt8) : Ending :=
  match splitP l with
  | none => gone 2
  | some (b, x, y) => .returned (.tuple #[.bool b, .string ⟨x.toArray⟩, .string ⟨y.toArray⟩])

theorem cut_len (l sep : List UInt8) : (Lib.cut l sep).1.length ≤ l.length ∧ (Lib.cut l sep).2.1.length ≤ l.length := by
  unfold Lib.cut
  by_cases h : 0 ≤ Lib.index l sep
  · rw [if_pos h]; simp; omega
  · rw [if_neg h]; simp

theorem trim_len (l p : List UInt8) : (Lib.trimPrefix l p).length ≤ l.length := by
  unfold Lib.trimPrefix
  by_cases h : Lib.hasPrefix l p = true
  · rw [if_pos h]; simp
  · rw [if_neg h]; exact Nat.le_refl _

/-- how split ends, by what it found -/
def splitV (b : Bool) (X Y : List UInt8) (pt : Bool) : Ending :=
  if !digitsB X then gone 2 else if pt && !digitsB Y then gone 2 else .returned (.tuple #[.bool b, .string ⟨X.toArray⟩, .string ⟨Y.toArray⟩])

theorem splitE_eq (l : List UInt8) (h : l.length ≤ 40) :
    splitE l = splitV (Lib.hasPrefix l [45]) (Lib.cut (Lib.trimPrefix l [45]) [46]).1 (Lib.cut (Lib.trimPrefix l [45]) [46]).2.1 (Lib.cut (Lib.trimPrefix l [45]) [46]).2.2 := by
  unfold splitE splitP splitV
  simp only []
  rw [if_neg (by omega)]
  by_cases h1 : (!digitsB (Lib.cut (Lib.trimPrefix l [45]) [46]).1) = true
  · rw [if_pos h1, if_pos h1]
  · rw [if_neg h1, if_neg h1]
    by_cases h2 : ((Lib.cut (Lib.trimPrefix l [45]) [46]).2.2 && !digitsB (Lib.cut (Lib.trimPrefix l [45]) [46]).2.1) = true
    · rw [if_pos h2, if_pos h2]
    · rw [if_neg h2, if_neg h2]

theorem digits_l (l : List UInt8) (b : Bool) (hb : digitsB l = b) (hl : l.length ≤ 40) (w : World) :
    Calls Tryz.prog 57 #[.string ⟨l.toArray⟩] w fun e w' => e = .returned (.bool b) ∧ w = w' := by
  have h := digits_any ⟨l.toArray⟩ w (by simp [ByteArray.size]; omega)
  rwa [show (ByteArray.mk l.toArray).data.toList = l by simp, hb] at h

theorem cut_l (t : List UInt8) (ht : t.length ≤ 40) (m : Int) (w : World) (hm : w.cell? ⟨3, 0, none⟩ = some (.int .i64 m)) :
    Calls Tryz.prog 56 #[.string ⟨t.toArray⟩, .string ⟨#[46]⟩] w fun e w' => e = .returned (.tuple #[.string ⟨(Lib.cut t [46]).1.toArray⟩, .string ⟨(Lib.cut t [46]).2.1.toArray⟩, .bool (Lib.cut t [46]).2.2]) ∧ ∃ n, w' = w.drewN n := by
  have h := Tryz.strings_Cut ⟨t.toArray⟩ ⟨#[46]⟩ m w (by simp [ByteArray.size]; omega) hm
  have e1 : (ByteArray.mk t.toArray).data.toList = t := by simp
  have e2 : (ByteArray.mk #[46]).data.toList = [46] := rfl
  rw [e1, e2] at h
  exact h

theorem pre_l (s : ByteArray) (w : World) :
    Calls Tryz.prog 55 #[.string s, .string ⟨#[45]⟩] w fun e w' => e = .returned (.tuple #[.string ⟨(Lib.trimPrefix s.data.toList [45]).toArray⟩, .bool (Lib.hasPrefix s.data.toList [45])]) ∧ w' = w :=
  Tryz.strings_CutPrefix s ⟨#[45]⟩ w

set_option maxHeartbeats 1000000 in
theorem split_any (s : ByteArray) (m : Int) (w : World) (hm : w.cell? ⟨3, 0, none⟩ = some (.int .i64 m)) (hs : s.size ≤ 140737488351232) :
    Calls Tryz.prog 28 #[.string s] w fun e w' => e = splitE s.data.toList ∧ ∃ d, w' = w.drewN d := by
  by_cases h40 : 40 < s.size
  · have hl : (40 : Int) < s.size := by omega
    have HE : Hid (splitE s.data.toList = gone 2) := Lib.hid (by
      have h : 40 < s.data.toList.length := by simpa using h40
      have e : splitP s.data.toList = none := by unfold splitP; exact if_pos h
      simp only [splitE, e])
    rw [HE.out]
    unfold gone
    clear h40
    go_enter Tryz.func28, Tryz.ntmps28
    go_wp2
    exact ⟨rfl, rfl, 0, rfl⟩
  · have hl : ¬ (40 : Int) < s.size := by omega
    have hL : s.data.toList.length ≤ 40 := by simpa using h40
    rw [splitE_eq _ hL]
    have hcl := cut_len (Lib.trimPrefix s.data.toList [45]) [46]
    have htl := trim_len s.data.toList [45]
    have hpre := fun w => pre_l s w
    have hcutc := fun w hm => cut_l (Lib.trimPrefix s.data.toList [45]) (by omega) m w hm
    generalize Lib.trimPrefix s.data.toList [45] = t at *
    generalize Lib.hasPrefix s.data.toList [45] = bl at *
    generalize Lib.cut t [46] = c at *
    obtain ⟨X, Y, pt⟩ := c
    simp only [] at hcutc hcl ⊢
    have hX : X.length ≤ 40 := by omega
    have hY : Y.length ≤ 40 := by omega
    obtain ⟨b1, hb1⟩ : ∃ b, digitsB X = b := ⟨_, rfl⟩
    obtain ⟨b2, hb2⟩ : ∃ b, digitsB Y = b := ⟨_, rfl⟩
    have hd1 := fun w => digits_l X b1 hb1 hX w
    have hd2 := fun w => digits_l Y b2 hb2 hY w
    obtain ⟨E, hE⟩ : ∃ E, E = splitV bl X Y pt := ⟨_, rfl⟩
    rw [← hE]
    simp only [splitV, hb1, hb2] at hE
    have HE := Lib.hid hE
    have H1 := Lib.hid hcutc
    have H2 := Lib.hid hpre
    have H3 := Lib.hid hd1
    have H4 := Lib.hid hd2
    clear hE hcutc hpre hd1 hd2 hb1 hb2 hX hY hcl htl hL h40
    go_enter Tryz.func28, Tryz.ntmps28
    go_wp2_with fail
    refine (H2.out _).mono ?_
    rintro e w' ⟨rfl, rfl⟩
    go_wp2_with fail
    refine (H1.out _ hm).mono ?_
    rintro e w' ⟨rfl, d, rfl⟩
    go_wp2_with fail
    refine (H3.out _).mono ?_
    rintro e w' ⟨rfl, rfl⟩
    cases b1
    · unfold gone at HE
      go_wp2_with fail
      exact ⟨rfl, by rw [HE.out]; rfl, d, rfl⟩
    · cases pt
      · go_wp2_with fail
        go_ret3
        exact ⟨by rw [HE.out]; rfl, d, rfl⟩
      · go_wp2_with fail
        refine (H4.out _).mono ?_
        rintro e w' ⟨rfl, rfl⟩
        cases b2
        · unfold gone at HE
          go_wp2_with fail
          exact ⟨rfl, by rw [HE.out]; rfl, d, rfl⟩
        · go_wp2_with fail
          go_ret3
          exact ⟨by rw [HE.out]; rfl, d, rfl⟩
end Go.Proofs.YtpodgmibghcjdaaGreatDoor
