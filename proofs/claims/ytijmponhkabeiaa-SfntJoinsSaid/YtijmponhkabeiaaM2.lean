/-
  Several texts in one: PowR, PutS, PutL, RefPut, RefPut2, HdR, JoinS.
-/
import Derived.Test.YtijmponhkabeiaaM0
import Derived.Test.YtijmponhkabeiaaM1
namespace Go.Proofs.Ytijmponhkabeiaa
open Go Go.RowKit

def PwRel (w : World) (n k : Nat) (vp ve : Value) (wr : World) : Prop := ∃ e : Nat, e + k = Nat.log2 n ∧ vp = .int .i64 ((2 ^ e : Nat) : Int) ∧ ve = .int .i64 (e : Int) ∧ Below w.heap.size w wr

set_option maxRecDepth 20000 in
theorem power_any (w : World) (n : Nat) (h1 : 1 ≤ n) (h2 : n ≤ 1000000) : Calls Try.prog 57 #[.int .i64 (n : Int)] w fun e w' => e = .returned (.tuple #[.int .i64 ((2 ^ Nat.log2 n : Nat) : Int), .int .i64 ((Nat.log2 n : Nat) : Int)]) ∧ Below w.heap.size w w' := by
  obtain ⟨L, hL⟩ : ∃ L, L = Nat.log2 n := ⟨_, rfl⟩
  have HL := Lib.hid hL
  have hne : n ≠ 0 := by omega
  have HUP : Hid (∀ e, e < L → 2 * 2 ^ e ≤ n) := Lib.hid (fun e he => by
    have h : 2 ^ (e + 1) ≤ n := (Nat.le_log2 hne).1 (by omega)
    rw [Nat.pow_succ] at h; omega)
  have HTOP : Hid (n < 2 * 2 ^ L) := Lib.hid (by
    have h : n < 2 ^ (L + 1) := (Nat.log2_lt hne).1 (by omega)
    rw [Nat.pow_succ] at h; omega)
  have HLT : Hid (L ≤ 1000000) := Lib.hid (by
    have h : 2 ^ L ≤ n := (Nat.le_log2 hne).1 (by omega)
    have := Nat.lt_two_pow_self (n := L)
    omega)
  rw [← hL]
  clear hL hne
  go_enter Try.func57, Try.ntmps57
  go_wp2_with fail
  go_loopg [4, 5] L (fun k vp ve wr => PwRel w n k vp ve wr)
  case atStart => exact ⟨0, by rw [HL.out]; omega, rfl, rfl, Below.refl _ _⟩
  case round =>
    obtain ⟨e, hek, rfl, rfl, hb⟩ := hrel
    have HB := Lib.hid hb
    have hek' : e + gk = L := by rw [HL.out]; exact hek
    clear hek
    by_cases hk : gk = 0
    · have he : e = L := by omega
      subst he
      have ht := HTOP.out
      obtain ⟨p, hp⟩ : ∃ p, p = 2 ^ e := ⟨_, rfl⟩
      have HPP := Lib.hid hp
      rw [← hp] at ht ⊢
      obtain ⟨p2, hp2⟩ : ∃ p2, p2 = 2 * p := ⟨_, rfl⟩
      have hpn : p ≤ n := by
        have h := HTOP.out
        rw [← hp] at h
        have h3 : 2 ^ e ≤ n := (Nat.le_log2 (by omega)).1 (by rw [HL.out]; exact Nat.le_refl _)
        rw [← hp] at h3; exact h3
      have q1 : IntKind.i64.wrap (2 * (p : Int)) = (p2 : Int) := by rw [IntKind.wrap_i64]; omega
      have b1 : ((p2 : Int) ≤ (n : Int)) = False := eq_false (by omega)
      clear hk hek' hb ht hp hp2 hpn
      go_wp2_with fail
      go_ret2
      exact ⟨by rw [HPP.out]; rfl, HB.out⟩
    · have hu := HUP.out e (by omega)
      obtain ⟨e1, he1⟩ : ∃ e1, e1 = e + 1 := ⟨_, rfl⟩
      have hpe : 2 ^ e1 = 2 * 2 ^ e := by rw [he1, Nat.pow_succ]; omega
      have HPE := Lib.hid hpe
      obtain ⟨p, hp⟩ : ∃ p, p = 2 ^ e := ⟨_, rfl⟩
      rw [← hp] at hu hpe ⊢
      obtain ⟨p2, hp2⟩ : ∃ p2, p2 = 2 ^ e1 := ⟨_, rfl⟩
      rw [← hp2] at hpe
      have q1 : IntKind.i64.wrap (2 * (p : Int)) = (p2 : Int) := by rw [IntKind.wrap_i64]; omega
      have q2 : IntKind.i64.wrap ((e : Int) + 1) = (e1 : Int) := by rw [IntKind.wrap_i64]; have := HLT.out; omega
      have b1 : ((p2 : Int) ≤ (n : Int)) = True := eq_true (by omega)
      have HP2 := Lib.hid hp2
      have HE1 := Lib.hid he1
      have HEK := Lib.hid hek'
      have HK := Lib.hid hk
      clear hk hek' hb hu he1 hpe hp hp2
      go_wp2_with fail
      go_roundg (gk - 1)
      case measure => have := HK.out; omega
      case rel => exact ⟨e1, by rw [← HL.out]; have := HEK.out; have := HK.out; have := HE1.out; omega, by rw [← HP2.out], rfl, HB.out⟩

set_option maxRecDepth 20000 in
theorem up_any (w : World) (n : Nat) (h2 : n ≤ 1000000000) : Calls Try.prog 35 #[.int .i64 (n : Int)] w fun e w' => e = .returned (.int .i64 (((n + 3) / 4 * 4 : Nat) : Int)) ∧ w = w' := by
  obtain ⟨a, ha⟩ : ∃ a, a = n + 3 := ⟨_, rfl⟩
  obtain ⟨b, hb⟩ : ∃ b, b = a / 4 := ⟨_, rfl⟩
  obtain ⟨c, hc⟩ : ∃ c, c = b * 4 := ⟨_, rfl⟩
  rw [show (n + 3) / 4 * 4 = c by omega]
  have q1 : IntKind.i64.wrap ((n : Int) + 3) = (a : Int) := by rw [IntKind.wrap_i64]; omega
  have q2 : wrap64 ((a : Int) / 4) = (b : Int) := by unfold wrap64; omega
  have q3 : IntKind.i64.wrap ((b : Int) * 4) = (c : Int) := by rw [IntKind.wrap_i64]; omega
  clear ha hb hc h2
  go_enter Try.func35, Try.ntmps35
  go_wp2_with fail
  go_ret
  exact ⟨rfl, rfl⟩
end Go.Proofs.Ytijmponhkabeiaa

namespace Go.Proofs.Ytijmponhkabeiaa
open Go Go.RowKit

/-- how many bytes a letter's number has -/
def sizeC (c : Nat) : Nat := if c = 98 then 1 else if c = 72 then 2 else if c = 104 then 2 else if c = 73 then 4 else 0

/-- is a number in a letter's range? -/
def fitsC (c : Nat) (n : Int) : Bool :=
  if c = 98 then decide (0 ≤ n) && decide (n ≤ 255)
  else if c = 72 then decide (0 ≤ n) && decide (n ≤ 65535)
  else if c = 104 then decide (-32768 ≤ n) && decide (n ≤ 32767)
  else if c = 73 then decide (0 ≤ n) && decide (n ≤ 4294967295)
  else false

/-- the lowest k bytes, the highest one first -/
def lowB : Nat → Int → List Int
  | 0, _ => []
  | k + 1, n => (n / 256 ^ k) % 256 :: lowB k n

/-- the bytes of all, if each fits -/
def putR : List Int → List Nat → Option (List Int)
  | [], _ => some []
  | _ :: _, [] => none
  | n :: l, c :: p => if fitsC c n then (putR l p).map (lowB (sizeC c) n ++ ·) else none

def plan (s : ByteArray) : List Nat := s.data.toList.map UInt8.toNat

/-- what is answered: the error's number, the bytes -/
def putA (l : List Int) (s : ByteArray) : Int × List Int :=
  if l.length = s.size then
    match putR l (plan s) with
    | some b => (0, b)
    | none => (2, [])
  else (2, [])

/-- Put's contract -/
def PutC (f : FuncId) : Prop := ∀ (w : World) (v : Value) (l : List Int) (s : ByteArray), NumZ .i64 w v l → l.length ≤ 1000000 → s.size ≤ 1000000 →
  Calls Try.prog f #[v, .string s] w fun e w' => Below w.heap.size w w' ∧ ∃ r, e = .returned (.tuple #[r, .int .i64 (putA l s).1]) ∧ OwnB w.heap.size w' r (putA l s).2
end Go.Proofs.Ytijmponhkabeiaa

namespace Go.Proofs.Ytijmponhkabeiaa
open Go Go.RowKit

theorem lowB_len (k : Nat) (n : Int) : (lowB k n).length = k := by
  induction k with
  | zero => rfl
  | succ k ih => simp [lowB, ih]

theorem lowB_b (k : Nat) (n : Int) : AllB (lowB k n) := by
  induction k with
  | zero => intro x hx; cases hx
  | succ k ih =>
    intro x hx
    rcases List.mem_cons.1 hx with rfl | h
    · omega
    · exact ih x h

theorem putR_b : ∀ (l : List Int) (P : List Nat) (b : List Int), putR l P = some b → AllB b := by
  intro l
  induction l with
  | nil => intro P b h; simp only [putR, Option.some.injEq] at h; subst h; intro x hx; cases hx
  | cons n l ih =>
    intro P b h
    cases P with
    | nil => simp [putR] at h
    | cons c P =>
      simp only [putR] at h
      split at h
      · cases hr : putR l P with
        | none => rw [hr] at h; cases h
        | some b' =>
          rw [hr] at h
          simp only [Option.map_some, Option.some.injEq] at h
          subst h
          intro x hx
          rcases List.mem_append.1 hx with h' | h'
          · exact lowB_b _ _ x h'
          · exact ih P b' hr x h'
      · cases h

theorem putR_cons {n : Int} {l : List Int} {c : Nat} {P : List Nat} {b : List Int} (h : putR (n :: l) (c :: P) = some b) : fitsC c n = true ∧ ∃ b', b = lowB (sizeC c) n ++ b' ∧ putR l P = some b' := by
  simp only [putR] at h
  split at h
  · rename_i hf
    cases hr : putR l P with
    | none => rw [hr] at h; cases h
    | some b' =>
      rw [hr] at h
      simp only [Option.map_some, Option.some.injEq] at h
      exact ⟨hf, b', h.symm, rfl⟩
  · cases h

theorem putR_step {l : List Int} {P : List Nat} {b : List Int} {i p : Nat} (hi : i < l.length) (hP : l.length = P.length) (h : putR (l.drop i) (P.drop i) = some (b.drop p)) :
    fitsC (P.getD i 0) l[i] = true ∧ b.drop p = lowB (sizeC (P.getD i 0)) l[i] ++ b.drop (p + sizeC (P.getD i 0)) ∧ putR (l.drop (i + 1)) (P.drop (i + 1)) = some (b.drop (p + sizeC (P.getD i 0))) := by
  have hiP : i < P.length := by omega
  rw [List.drop_eq_getElem_cons hi, List.drop_eq_getElem_cons hiP] at h
  obtain ⟨hf, b', hb, hr⟩ := putR_cons h
  have e : P.getD i 0 = P[i] := by simp [hiP]
  rw [e]
  have hd : b.drop (p + sizeC P[i]) = b' := by
    rw [← List.drop_drop, hb, List.drop_left' (lowB_len _ _)]
  exact ⟨hf, by rw [hd]; exact hb, by rw [hd]; exact hr⟩

/-- the byte at a place behind a piece's beginning -/
theorem at_piece {b x : List Int} {p : Nat} {y : List Int} (h : b.drop p = x ++ y) (j : Nat) (hj : j < x.length) : b.getD (p + j) 0 = x.getD j 0 := by
  have e : b.getD (p + j) 0 = (b.drop p).getD j 0 := by
    rw [List.getD_eq_getElem?_getD, List.getD_eq_getElem?_getD, List.getElem?_drop]
  rw [e, h, List.getD_eq_getElem?_getD, List.getD_eq_getElem?_getD, List.getElem?_append_left hj]

theorem piece_in {b x : List Int} {p : Nat} {y : List Int} (h : b.drop p = x ++ y) (hx : 1 ≤ x.length) : p + x.length ≤ b.length := by
  have := congrArg List.length h
  simp at this
  omega

theorem plan_len (s : ByteArray) : (plan s).length = s.size := by simp [plan]

theorem idx_s (W : World) (s : ByteArray) (i : Nat) (h : i < s.size) : (Instr.index 9 (.string s) (.int .i64 (i : Int))).run Try.prog W = .ok (.int .u8 (((plan s).getD i 0 : Nat) : Int)) W := by
  have hi : i < s.data.size := h
  rw [run_index_string _ _ s .i64 _ Try.underlying9, dif_pos ⟨by omega, by omega⟩]
  congr 3
  simp only [Int.toNat_natCast]
  rw [List.getD_eq_getElem?_getD]
  simp only [plan, List.getElem?_map]
  rw [Array.getElem?_toList, Array.getElem?_eq_getElem hi]
  rfl
end Go.Proofs.Ytijmponhkabeiaa

namespace Go.Proofs.Ytijmponhkabeiaa
open Go Go.RowKit

set_option maxRecDepth 20000 in
theorem refSize_any (w : World) (c : Nat) (hc : c < 256) : Calls Try.prog 65 #[.int .u8 (c : Int)] w fun e w' => e = .returned (.int .i64 ((sizeC c : Nat) : Int)) ∧ w = w' := by
  rcases (show c = 98 ∨ c = 72 ∨ c = 104 ∨ c = 73 ∨ (c ≠ 98 ∧ c ≠ 72 ∧ c ≠ 104 ∧ c ≠ 73) by omega) with rfl | rfl | rfl | rfl | ⟨h1, h2, h3, h4⟩
  · go_enter Try.func65, Try.ntmps65
    go_wp2_with fail
    go_ret
    exact ⟨rfl, rfl⟩
  · go_enter Try.func65, Try.ntmps65
    go_wp2_with fail
    go_ret
    exact ⟨rfl, rfl⟩
  · go_enter Try.func65, Try.ntmps65
    go_wp2_with fail
    go_ret
    exact ⟨rfl, rfl⟩
  · go_enter Try.func65, Try.ntmps65
    go_wp2_with fail
    go_ret
    exact ⟨rfl, rfl⟩
  · have b1 : ((c : Int) == 98) = false := by simp; omega
    have b2 : ((c : Int) == 72) = false := by simp; omega
    have b3 : ((c : Int) == 104) = false := by simp; omega
    have b4 : ((c : Int) == 73) = false := by simp; omega
    have HS : Hid (sizeC c = 0) := Lib.hid (by simp [sizeC, h1, h2, h3, h4])
    generalize sizeC c = z at HS ⊢
    clear h1 h2 h3 h4 hc
    go_enter Try.func65, Try.ntmps65
    go_wp2_with fail
    go_ret
    exact ⟨by rw [HS.out]; rfl, rfl⟩

set_option maxRecDepth 20000 in
theorem refFits_any (w : World) (c : Nat) (n : Int) : Calls Try.prog 64 #[.int .u8 (c : Int), .int .i64 n] w fun e w' => e = .returned (.bool (fitsC c n)) ∧ w = w' := by
  have key : ∀ (lo hi : Int), ∀ b, b = (decide (lo ≤ n) && decide (n ≤ hi)) → (lo ≤ n ∧ n ≤ hi ∧ b = true) ∨ (lo ≤ n ∧ ¬ n ≤ hi ∧ b = false) ∨ (¬ lo ≤ n ∧ b = false) := by
    intro lo hi b hb
    by_cases h1 : lo ≤ n
    · by_cases h2 : n ≤ hi
      · exact .inl ⟨h1, h2, by rw [hb]; simp [h1, h2]⟩
      · exact .inr (.inl ⟨h1, h2, by rw [hb]; simp [h2]⟩)
    · exact .inr (.inr ⟨h1, by rw [hb]; simp [h1]⟩)
  obtain ⟨R, hR⟩ : ∃ R, R = fitsC c n := ⟨_, rfl⟩
  rw [← hR]
  rcases (show c = 98 ∨ c = 72 ∨ c = 104 ∨ c = 73 ∨ (c ≠ 98 ∧ c ≠ 72 ∧ c ≠ 104 ∧ c ≠ 73) by omega) with rfl | rfl | rfl | rfl | ⟨h1, h2, h3, h4⟩
  · rcases key (0) 255 R (by rw [hR]; rfl) with ⟨g1, g2, g3⟩ | ⟨g1, g2, g3⟩ | ⟨g1, g3⟩
    · have b1 : ((0 : Int) ≤ n) = True := eq_true g1
      have b2 : (n ≤ 255) = True := eq_true g2
      have HS := Lib.hid g3
      clear g1 g2 g3 hR key
      go_enter Try.func64, Try.ntmps64
      go_wp2_with fail
      go_ret
      exact ⟨by rw [HS.out]; rfl, rfl⟩
    · have b1 : ((0 : Int) ≤ n) = True := eq_true g1
      have b2 : (n ≤ 255) = False := eq_false g2
      have HS := Lib.hid g3
      clear g1 g2 g3 hR key
      go_enter Try.func64, Try.ntmps64
      go_wp2_with fail
      go_ret
      exact ⟨by rw [HS.out]; rfl, rfl⟩
    · have b1 : ((0 : Int) ≤ n) = False := eq_false g1
      have HS := Lib.hid g3
      clear g1 g3 hR key
      go_enter Try.func64, Try.ntmps64
      go_wp2_with fail
      go_ret
      exact ⟨by rw [HS.out]; rfl, rfl⟩
  · rcases key (0) 65535 R (by rw [hR]; rfl) with ⟨g1, g2, g3⟩ | ⟨g1, g2, g3⟩ | ⟨g1, g3⟩
    · have b1 : ((0 : Int) ≤ n) = True := eq_true g1
      have b2 : (n ≤ 65535) = True := eq_true g2
      have HS := Lib.hid g3
      clear g1 g2 g3 hR key
      go_enter Try.func64, Try.ntmps64
      go_wp2_with fail
      go_ret
      exact ⟨by rw [HS.out]; rfl, rfl⟩
    · have b1 : ((0 : Int) ≤ n) = True := eq_true g1
      have b2 : (n ≤ 65535) = False := eq_false g2
      have HS := Lib.hid g3
      clear g1 g2 g3 hR key
      go_enter Try.func64, Try.ntmps64
      go_wp2_with fail
      go_ret
      exact ⟨by rw [HS.out]; rfl, rfl⟩
    · have b1 : ((0 : Int) ≤ n) = False := eq_false g1
      have HS := Lib.hid g3
      clear g1 g3 hR key
      go_enter Try.func64, Try.ntmps64
      go_wp2_with fail
      go_ret
      exact ⟨by rw [HS.out]; rfl, rfl⟩
  · rcases key (-32768) 32767 R (by rw [hR]; rfl) with ⟨g1, g2, g3⟩ | ⟨g1, g2, g3⟩ | ⟨g1, g3⟩
    · have b1 : ((-32768 : Int) ≤ n) = True := eq_true g1
      have b2 : (n ≤ 32767) = True := eq_true g2
      have HS := Lib.hid g3
      clear g1 g2 g3 hR key
      go_enter Try.func64, Try.ntmps64
      go_wp2_with fail
      go_ret
      exact ⟨by rw [HS.out]; rfl, rfl⟩
    · have b1 : ((-32768 : Int) ≤ n) = True := eq_true g1
      have b2 : (n ≤ 32767) = False := eq_false g2
      have HS := Lib.hid g3
      clear g1 g2 g3 hR key
      go_enter Try.func64, Try.ntmps64
      go_wp2_with fail
      go_ret
      exact ⟨by rw [HS.out]; rfl, rfl⟩
    · have b1 : ((-32768 : Int) ≤ n) = False := eq_false g1
      have HS := Lib.hid g3
      clear g1 g3 hR key
      go_enter Try.func64, Try.ntmps64
      go_wp2_with fail
      go_ret
      exact ⟨by rw [HS.out]; rfl, rfl⟩
  · rcases key (0) 4294967295 R (by rw [hR]; rfl) with ⟨g1, g2, g3⟩ | ⟨g1, g2, g3⟩ | ⟨g1, g3⟩
    · have b1 : ((0 : Int) ≤ n) = True := eq_true g1
      have b2 : (n ≤ 4294967295) = True := eq_true g2
      have HS := Lib.hid g3
      clear g1 g2 g3 hR key
      go_enter Try.func64, Try.ntmps64
      go_wp2_with fail
      go_ret
      exact ⟨by rw [HS.out]; rfl, rfl⟩
    · have b1 : ((0 : Int) ≤ n) = True := eq_true g1
      have b2 : (n ≤ 4294967295) = False := eq_false g2
      have HS := Lib.hid g3
      clear g1 g2 g3 hR key
      go_enter Try.func64, Try.ntmps64
      go_wp2_with fail
      go_ret
      exact ⟨by rw [HS.out]; rfl, rfl⟩
    · have b1 : ((0 : Int) ≤ n) = False := eq_false g1
      have HS := Lib.hid g3
      clear g1 g3 hR key
      go_enter Try.func64, Try.ntmps64
      go_wp2_with fail
      go_ret
      exact ⟨by rw [HS.out]; rfl, rfl⟩
  · have b1 : ((c : Int) == 98) = false := by simp; omega
    have b2 : ((c : Int) == 72) = false := by simp; omega
    have b3 : ((c : Int) == 104) = false := by simp; omega
    have b4 : ((c : Int) == 73) = false := by simp; omega
    have HS : Hid (R = false) := Lib.hid (by rw [hR]; simp [fitsC, h1, h2, h3, h4])
    clear h1 h2 h3 h4 hR key
    go_enter Try.func64, Try.ntmps64
    go_wp2_with fail
    go_ret
    exact ⟨by rw [HS.out]; rfl, rfl⟩
end Go.Proofs.Ytijmponhkabeiaa

namespace Go.Proofs.Ytijmponhkabeiaa
open Go Go.RowKit

/-- at the head of the round of the number with this index: what is put so far, and what is left -/
def RPRel (w : World) (l : List Int) (P : List Nat) (k : Nat) (vo vi : Value) (wr : World) : Prop := ∃ (v : Value) (i : Nat) (bs : List Int), v = vo ∧ i + k = l.length ∧ vi = .int .i64 (i : Int) ∧ OwnB w.heap.size wr v bs ∧ Below w.heap.size w wr ∧ bs.length ≤ 4 * i ∧ putR l P = (putR (l.drop i) (P.drop i)).map (bs ++ ·)

/-- at the head of the round of the byte with this place -/
def RBRel (w : World) (bs : List Int) (c : Nat) (n : Int) (k : Nat) (vo vi : Value) (wr : World) : Prop := ∃ (v : Value) (pre : List Int), v = vo ∧ vi = .int .i64 ((k : Int) - 1) ∧ OwnB w.heap.size wr v (bs ++ pre) ∧ Below w.heap.size w wr ∧ pre ++ lowB k n = lowB (sizeC c) n

theorem putR_next {l : List Int} {P : List Nat} {i : Nat} (hi : i < l.length) (hP : l.length = P.length) (bs : List Int) (h : putR l P = (putR (l.drop i) (P.drop i)).map (bs ++ ·)) :
    (fitsC (P.getD i 0) l[i] = false → putR l P = none) ∧ (fitsC (P.getD i 0) l[i] = true → putR l P = (putR (l.drop (i + 1)) (P.drop (i + 1))).map (bs ++ lowB (sizeC (P.getD i 0)) l[i] ++ ·)) := by
  have hiP : i < P.length := by omega
  have e : P.getD i 0 = P[i] := by simp [hiP]
  rw [List.drop_eq_getElem_cons hi, List.drop_eq_getElem_cons hiP] at h
  rw [e]
  constructor
  · intro hf
    rw [h, putR, hf]; rfl
  · intro hf
    rw [h, putR, hf, if_pos rfl]
    cases putR (l.drop (i + 1)) (P.drop (i + 1)) <;> simp

theorem sizeC_le (c : Nat) : sizeC c ≤ 4 := by unfold sizeC; repeat (first | omega | split)

theorem plan_b (s : ByteArray) (i : Nat) : (plan s).getD i 0 < 256 := by
  rw [List.getD_eq_getElem?_getD]
  cases h : (plan s)[i]? with
  | none => simp
  | some x =>
    have hm := List.mem_of_getElem? h
    simp only [plan, List.mem_map] at hm
    obtain ⟨u, _, rfl⟩ := hm
    exact u.toNat_lt

set_option maxHeartbeats 20000000 in
set_option maxRecDepth 20000 in
theorem refPut_any : PutC 34 := by
  intro w v l s hv hl hs
  have HV := Lib.hid hv
  obtain ⟨A, c, rfl, _, _, _⟩ := hv
  rename_i g1 g2 g3
  obtain ⟨N, hN⟩ : ∃ N, N = l.length := ⟨_, rfl⟩
  have HN := Lib.hid hN
  rw [← hN] at HV ⊢
  have b1 : (16777216 < (N : Int)) = False := eq_false (by omega)
  by_cases hlen : l.length = s.size
  · have HA : Hid ((∀ b, putR l (plan s) = some b → putA l s = (0, b)) ∧ (putR l (plan s) = none → putA l s = (2, []))) := Lib.hid ⟨fun b hb => by unfold putA; rw [if_pos hlen, hb], fun hb => by unfold putA; rw [if_pos hlen, hb]⟩
    have hNs : N = s.size := by omega
    have b2 : ((N : Int) != (s.size : Int)) = false := by rw [hNs]; simp
    have HLP : Hid (l.length = (plan s).length) := Lib.hid (by rw [plan_len]; exact hlen)
    have HNS := Lib.hid hNs
    have HL6 := Lib.hid hl
    have HS0 : Hid (putR l (plan s) = (putR (l.drop 0) ((plan s).drop 0)).map ([] ++ ·)) := Lib.hid (by simp)
    obtain ⟨q, hq⟩ : ∃ q, q = putA l s := ⟨_, rfl⟩
    rw [← hq] at HA ⊢
    clear g1 g2 g3 hN hl hs hlen hNs hq
    go_enter Try.func34, Try.ntmps34
    go_wp2_with fail
    go_loopg [6, 7] N (fun k vo vi wr => RPRel w l (plan s) k vo vi wr)
    case atStart => exact ⟨_, 0, [], rfl, by have := HN.out; omega, rfl, OwnB.nil _ _, Below.refl _ _, Nat.zero_le _, HS0.out⟩
    case round =>
      obtain ⟨vo, i, bs, rfl, hik, rfl, how, hb, hbl, hput⟩ := hrel
      have HOW := Lib.hid how
      have HBW := Lib.hid hb
      have HIK := Lib.hid hik
      have HBL := Lib.hid hbl
      obtain ⟨kk, hkk⟩ : ∃ kk, kk = gk := ⟨_, rfl⟩
      have HKK := Lib.hid hkk
      clear how hkk
      by_cases hi : i = N
      · have bi : ((i : Int) < (N : Int)) = False := eq_false (by omega)
        have HRES : Hid (q = (0, bs)) := Lib.hid (by
          exact HA.out.1 bs (by rw [hput, hi, HN.out, List.drop_length]; simp [putR]))
        clear hi hik hbl hput hb
        go_wp2_with fail
        go_ret2
        refine ⟨HBW.out, vo, ?_, ?_⟩
        · rw [HRES.out]; rfl
        · rw [HRES.out]; exact HOW.out
      · have hil : i < l.length := by have := HN.out; omega
        obtain ⟨hno, hyes⟩ := putR_next hil HLP.out bs hput
        have hidx := fun W => idx_s W s i (by have := HNS.out; have := HN.out; omega)
        obtain ⟨g, off, rfl, _, hc⟩ := (HV.out.below hb).cells (by rintro rfl; simp at hil)
        have cn := hc i hil
        obtain ⟨n, hn⟩ : ∃ n, n = l[i] := ⟨_, rfl⟩
        rw [← hn] at cn hno hyes
        have hcb := plan_b s i
        obtain ⟨ch, hch⟩ : ∃ ch, ch = (plan s).getD i 0 := ⟨_, rfl⟩
        rw [← hch] at hno hyes hcb
        simp only [← hch] at hidx
        obtain ⟨i1, hi1⟩ : ∃ i1, i1 = i + 1 := ⟨_, rfl⟩
        have q1 : IntKind.i64.wrap ((i : Int) + 1) = (i1 : Int) := by rw [IntKind.wrap_i64]; have := HL6.out; omega
        have bi : ((i : Int) < (N : Int)) = True := eq_true (by have := HN.out; omega)
        have i0 : (0 : Int) ≤ (i : Int) := Int.natCast_nonneg _
        have iN : (i : Int) < (N : Int) := by have := HN.out; omega
        have iS : (i : Int) < (s.size : Int) := by have := HNS.out; omega
        obtain ⟨ft, hft⟩ : ∃ ft, ft = fitsC ch n := ⟨_, rfl⟩
        rw [← hft] at hno hyes
        have HF : Hid (∀ wx, Calls Try.prog 64 #[.int .u8 (ch : Int), .int .i64 n] wx fun e w' => e = .returned (.bool ft) ∧ wx = w') := Lib.hid (fun wx => by rw [hft]; exact refFits_any wx ch n)
        have HSZ : Hid (∀ wx, Calls Try.prog 65 #[.int .u8 (ch : Int)] wx fun e w' => e = .returned (.int .i64 ((sizeC ch : Nat) : Int)) ∧ wx = w') := Lib.hid (fun wx => refSize_any wx ch hcb)
        have HI1 := Lib.hid hi1
        have HIN := Lib.hid hi
        have HNO := Lib.hid hno
        have HYES := Lib.hid hyes
        clear hik hi hno hyes hn hch hi1 hft hc hput hb hbl hcb hil
        go_upto_region 9 with fail
        go_cut [32] from 18 to 54 (fun sr wx => sr = .bool (!ft) ∧ Below wr.heap.size wr wx)
        case first =>
          go_region_held3 (fun w' => w'.cell? ⟨g, off + i, none⟩ = some (.int .i64 n) ∧ Below wr.heap.size wr w')
            (first | assumption | (go_split_ands; exact ⟨cn, (Below.refl _ wr).drew⟩) | (go_split_ands; exact ⟨by assumption, by assumption⟩))
            (first
              | (go_at_call 64; go_split_ands; refine (HF.out _).mono ?_; rintro e wx ⟨rfl, rfl⟩))
          all_goals (go_wp2_with fail; go_meet; go_split_ands; exact ⟨rfl, by assumption⟩)
        case rest =>
          obtain ⟨rfl, hb5⟩ := hcut
          have HB5 := Lib.hid (HBW.out.trans (hb5.mono HBW.out.size))
          have HO5 := Lib.hid (ownB_stays HOW.out hb5)
          have cn5 := cellsAt_below cn hb5
          clear hb5 cn
          cases ft with
          | false =>
            have HRES : Hid (q = (2, [])) := Lib.hid (HA.out.2 (HNO.out rfl))
            clear hidx
            go_wp2_with fail
            go_ret2
            refine ⟨HB5.out, .slice none 0 0, ?_, ?_⟩
            · rw [HRES.out]; rfl
            · rw [HRES.out]; exact OwnB.nil _ _
          | true =>
            obtain ⟨sz, hsz⟩ : ∃ sz, sz = sizeC ch := ⟨_, rfl⟩
            have hsz4 := sizeC_le ch
            rw [← hsz] at HSZ hsz4
            have HSE := Lib.hid hsz
            obtain ⟨u, hu⟩ : ∃ u, u = IntKind.u32.wrap n := ⟨_, rfl⟩
            have hu2 : IntKind.u32.wrap n = u := hu.symm
            have HU : Hid (u = n % 4294967296) := Lib.hid (by rw [hu, wrap_u32])
            have q5 : IntKind.i64.wrap ((sz : Int) - 1) = (sz : Int) - 1 := by rw [IntKind.wrap_i64]; omega
            clear hsz hu
            go_wp2_with fail
            refine (HSZ.out _).mono ?_
            rintro e w6 ⟨rfl, rfl⟩
            go_wp2_with fail
            go_loopg [6, 9] sz (fun k vo vi wr => RBRel w bs ch n k vo vi wr)
            case atStart => exact ⟨_, [], rfl, rfl, by rw [List.append_nil]; exact HO5.out, HB5.out, by rw [List.nil_append, HSE.out]⟩
            case round =>
              obtain ⟨vb, pre, rfl, rfl, howb, hbb, hpre⟩ := hrel
              have HOB := Lib.hid howb
              have HBB := Lib.hid hbb
              have HPRE := Lib.hid hpre
              clear howb hbb hpre
              rcases Nat.eq_zero_or_pos gk with h0 | h0
              · subst h0
                have HNEW : Hid (RPRel w l (plan s) (kk - 1) vb (.int .i64 (i1 : Int)) wr) := Lib.hid ⟨vb, i1, bs ++ pre, rfl, by have := HIK.out; have := HKK.out; have := HIN.out; have := HN.out; have := HI1.out; omega, rfl, HOB.out, HBB.out, by
                    have h1 := HPRE.out
                    have h2 := congrArg List.length h1
                    have h3 := HBL.out
                    have h4 := HSE.out
                    have h5 := HI1.out
                    simp [lowB_len, lowB] at h2
                    simp; omega, by
                    have h1 := HPRE.out
                    rw [lowB, List.append_nil] at h1
                    rw [h1, HI1.out]
                    exact HYES.out (by first | rfl | trivial)⟩
                go_wp2_with fail
                go_roundg (kk - 1)
                case measure => have := HIK.out; have := HKK.out; have := HIN.out; have := HN.out; omega
                case rel => exact HNEW.out
              · have hjs : gk ≤ 4 := by
                  have h2 := congrArg List.length HPRE.out
                  have h4 := HSE.out
                  simp [lowB_len] at h2
                  omega
                have HLL : Hid ((bs ++ pre).length ≤ 4000010) := Lib.hid (by
                  have h2 := congrArg List.length HPRE.out
                  have h3 := HBL.out
                  have h4 := HSE.out
                  have h5 := HL6.out
                  have h6 := HIK.out
                  simp [lowB_len] at h2
                  simp; omega)
                rcases (show gk = 1 ∨ gk = 2 ∨ gk = 3 ∨ gk = 4 by omega) with hj | hj | hj | hj
                · have hg1 : ((gk : Int) - 1) = 0 := by omega
                  rw [hg1]
                  have HJ := Lib.hid hj
                  clear hj hjs h0 hg1
                  go_wp2_with (at_builtin; refine wp_append_b rfl _ _ rfl w.heap.size vb (bs ++ pre) rfl (ownB_stays HOB.out ((Below.refl _ _).alloc (Nat.le_refl _) _)) _ [u % 256] rfl (num_new .u8 wr [u % 256] _ (by simp)) (fun n c h => by cases h) (by have := HLL.out; simp only [List.length_cons, List.length_nil]; omega) (Nat.le_trans HBB.out.size (Nat.le_of_lt (heap_more _ _))) ?_)
                  intro v7 w7 how7 hk7
                  have HNB : Hid (RBRel w bs ch n (gk - 1) v7 (.int .i64 (0 - 1)) w7) := Lib.hid ⟨v7, pre ++ [u % 256], rfl, by rw [HJ.out]; rfl, by simpa using how7, hk7 _ (HBB.out.alloc HBB.out.size _), by
                      have h1 := HPRE.out
                      have h2 := HU.out
                      rw [HJ.out] at h1 ⊢
                      have e : u % 256 = n / 256 ^ 0 % 256 := by omega
                      rw [e, List.append_assoc]
                      exact h1⟩
                  clear how7 hk7
                  go_wp2_with fail
                  go_roundg (gk - 1)
                  case measure => have := HJ.out; omega
                  case rel => exact HNB.out
                · have hg2 : ((gk : Int) - 1) = 1 := by omega
                  rw [hg2]
                  have HJ := Lib.hid hj
                  clear hj hjs h0 hg2
                  go_wp2_with (at_builtin; refine wp_append_b rfl _ _ rfl w.heap.size vb (bs ++ pre) rfl (ownB_stays HOB.out ((Below.refl _ _).alloc (Nat.le_refl _) _)) _ [u / 256 % 256] rfl (num_new .u8 wr [u / 256 % 256] _ (by simp)) (fun n c h => by cases h) (by have := HLL.out; simp only [List.length_cons, List.length_nil]; omega) (Nat.le_trans HBB.out.size (Nat.le_of_lt (heap_more _ _))) ?_)
                  intro v7 w7 how7 hk7
                  have HNB : Hid (RBRel w bs ch n (gk - 1) v7 (.int .i64 (1 - 1)) w7) := Lib.hid ⟨v7, pre ++ [u / 256 % 256], rfl, by rw [HJ.out]; rfl, by simpa using how7, hk7 _ (HBB.out.alloc HBB.out.size _), by
                      have h1 := HPRE.out
                      have h2 := HU.out
                      rw [HJ.out] at h1 ⊢
                      have e : u / 256 % 256 = n / 256 ^ 1 % 256 := by omega
                      rw [e, List.append_assoc]
                      exact h1⟩
                  clear how7 hk7
                  go_wp2_with fail
                  go_roundg (gk - 1)
                  case measure => have := HJ.out; omega
                  case rel => exact HNB.out
                · have hg3 : ((gk : Int) - 1) = 2 := by omega
                  rw [hg3]
                  have HJ := Lib.hid hj
                  clear hj hjs h0 hg3
                  go_wp2_with (at_builtin; refine wp_append_b rfl _ _ rfl w.heap.size vb (bs ++ pre) rfl (ownB_stays HOB.out ((Below.refl _ _).alloc (Nat.le_refl _) _)) _ [u / 65536 % 256] rfl (num_new .u8 wr [u / 65536 % 256] _ (by simp)) (fun n c h => by cases h) (by have := HLL.out; simp only [List.length_cons, List.length_nil]; omega) (Nat.le_trans HBB.out.size (Nat.le_of_lt (heap_more _ _))) ?_)
                  intro v7 w7 how7 hk7
                  have HNB : Hid (RBRel w bs ch n (gk - 1) v7 (.int .i64 (2 - 1)) w7) := Lib.hid ⟨v7, pre ++ [u / 65536 % 256], rfl, by rw [HJ.out]; rfl, by simpa using how7, hk7 _ (HBB.out.alloc HBB.out.size _), by
                      have h1 := HPRE.out
                      have h2 := HU.out
                      rw [HJ.out] at h1 ⊢
                      have e : u / 65536 % 256 = n / 256 ^ 2 % 256 := by omega
                      rw [e, List.append_assoc]
                      exact h1⟩
                  clear how7 hk7
                  go_wp2_with fail
                  go_roundg (gk - 1)
                  case measure => have := HJ.out; omega
                  case rel => exact HNB.out
                · have hg4 : ((gk : Int) - 1) = 3 := by omega
                  rw [hg4]
                  have HJ := Lib.hid hj
                  clear hj hjs h0 hg4
                  go_wp2_with (at_builtin; refine wp_append_b rfl _ _ rfl w.heap.size vb (bs ++ pre) rfl (ownB_stays HOB.out ((Below.refl _ _).alloc (Nat.le_refl _) _)) _ [u / 16777216 % 256] rfl (num_new .u8 wr [u / 16777216 % 256] _ (by simp)) (fun n c h => by cases h) (by have := HLL.out; simp only [List.length_cons, List.length_nil]; omega) (Nat.le_trans HBB.out.size (Nat.le_of_lt (heap_more _ _))) ?_)
                  intro v7 w7 how7 hk7
                  have HNB : Hid (RBRel w bs ch n (gk - 1) v7 (.int .i64 (3 - 1)) w7) := Lib.hid ⟨v7, pre ++ [u / 16777216 % 256], rfl, by rw [HJ.out]; rfl, by simpa using how7, hk7 _ (HBB.out.alloc HBB.out.size _), by
                      have h1 := HPRE.out
                      have h2 := HU.out
                      rw [HJ.out] at h1 ⊢
                      have e : u / 16777216 % 256 = n / 256 ^ 3 % 256 := by omega
                      rw [e, List.append_assoc]
                      exact h1⟩
                  clear how7 hk7
                  go_wp2_with fail
                  go_roundg (gk - 1)
                  case measure => have := HJ.out; omega
                  case rel => exact HNB.out
  · have HA : Hid (putA l s = (2, [])) := Lib.hid (by unfold putA; rw [if_neg hlen])
    have b2 : ((N : Int) != (s.size : Int)) = true := by simp; omega
    clear g1 g2 g3 hN hl hs hlen
    go_enter Try.func34, Try.ntmps34
    go_wp2_with fail
    go_ret2
    refine ⟨Below.refl _ _, .slice none 0 0, ?_, ?_⟩
    · rw [HA.out]; rfl
    · rw [HA.out]; exact OwnB.nil _ _
end Go.Proofs.Ytijmponhkabeiaa

namespace Go.Proofs.Ytijmponhkabeiaa
open Go Go.RowKit

/-- a font's first bytes -/
def headL (n : Nat) : List Int := (putA [65536, (n : Int), ((16 * 2 ^ Nat.log2 n : Nat) : Int), ((Nat.log2 n : Nat) : Int), ((16 * n - 16 * 2 ^ Nat.log2 n : Nat) : Int)] ⟨#[73, 72, 72, 72, 72]⟩).2

set_option maxRecDepth 20000 in
theorem headR_any (w : World) (n : Nat) (h1 : 1 ≤ n) (h2 : n ≤ 64) : Calls Try.prog 26 #[.int .i64 (n : Int)] w fun e w' => Below w.heap.size w w' ∧ ∃ r B, e = .returned r ∧ w.heap.size ≤ B ∧ OwnB B w' r (headL n) := by
  have HPW := power_any w n h1 (by omega)
  have HPT := fun wx v hv => refPut_any wx v [65536, (n : Int), ((16 * 2 ^ Nat.log2 n : Nat) : Int), ((Nat.log2 n : Nat) : Int), ((16 * n - 16 * 2 ^ Nat.log2 n : Nat) : Int)] ⟨#[73, 72, 72, 72, 72]⟩ hv (by simp) (by decide)
  have hpn : 2 ^ Nat.log2 n ≤ n := (Nat.le_log2 (by omega)).1 (Nat.le_refl _)
  unfold headL
  obtain ⟨e, he⟩ : ∃ e, e = Nat.log2 n := ⟨_, rfl⟩
  rw [← he] at HPW hpn HPT ⊢
  obtain ⟨p, hp⟩ : ∃ p, p = 2 ^ e := ⟨_, rfl⟩
  rw [← hp] at HPW hpn HPT ⊢
  obtain ⟨p16, hp16⟩ : ∃ x, x = 16 * p := ⟨_, rfl⟩
  obtain ⟨n16, hn16⟩ : ∃ x, x = 16 * n := ⟨_, rfl⟩
  rw [← hp16, ← hn16] at HPT ⊢
  obtain ⟨d, hd⟩ : ∃ d, d = n16 - p16 := ⟨_, rfl⟩
  rw [← hd] at HPT ⊢
  have q1 : IntKind.i64.wrap (16 * (p : Int)) = (p16 : Int) := by rw [IntKind.wrap_i64]; omega
  have q2 : IntKind.i64.wrap (16 * (n : Int)) = (n16 : Int) := by rw [IntKind.wrap_i64]; omega
  have q3 : IntKind.i64.wrap ((n16 : Int) - (p16 : Int)) = (d : Int) := by rw [IntKind.wrap_i64]; omega
  obtain ⟨bs, hbs⟩ : ∃ bs, bs = (putA [65536, (n : Int), (p16 : Int), (e : Int), (d : Int)] ⟨#[73, 72, 72, 72, 72]⟩) := ⟨_, rfl⟩
  rw [← hbs]
  simp only [← hbs] at HPT
  have HPW := Lib.hid HPW
  have HPT := Lib.hid HPT
  clear hbs hd hp16 hn16 hp he hpn h1 h2
  go_enter Try.func26, Try.ntmps26
  go_wp2_with fail
  refine (HPW.out).mono ?_
  rintro e w1 ⟨rfl, hb1⟩
  have HB1 := Lib.hid hb1
  clear hb1
  go_wp2_with fail
  refine (HPT.out _ _ (num_new .i64 w1 [65536, (n : Int), (p16 : Int), _, (d : Int)] _ (by simp))).mono ?_
  rintro e w2 ⟨hb2, r, rfl, how⟩
  have hb3 := (HB1.out.trans (((Below.refl _ w1).alloc (Nat.le_refl _) _).mono HB1.out.size)).trans (hb2.mono (Nat.le_trans HB1.out.size (Nat.le_of_lt (heap_more _ _))))
  have HB3 := Lib.hid hb3
  have HOW := Lib.hid how
  have HSZ := Lib.hid (Nat.le_trans HB1.out.size (Nat.le_of_lt (heap_more w1 (.cells #[.int .i64 65536, .int .i64 (n : Int), .int .i64 (p16 : Int), .int .i64 (e : Int), .int .i64 (d : Int)] 2))))
  clear hb2 hb3 how
  go_wp2_with fail
  go_ret
  exact ⟨HB3.out, _, _, rfl, HSZ.out, HOW.out⟩
end Go.Proofs.Ytijmponhkabeiaa

namespace Go.Proofs.Ytijmponhkabeiaa
open Go Go.RowKit

/-- the next multiple of four -/
def upN (n : Nat) : Nat := (n + 3) / 4 * 4

/-- what is joined so far: the records, the rest, where the next table goes, where the sum of the whole goes -/
structure JoinS where
  recs : List Int
  rest : List Int
  place : Nat
  hole : Option Nat

/-- one table joined -/
def joinOne (j : JoinS) (t b : List Int) : Option JoinS :=
  if 16777216 < b.length ∨ 16777216 < j.place then none else
    some ⟨j.recs ++ t ++ (putA [sumTag t b, (j.place : Int), (b.length : Int)] ⟨#[73, 73, 73]⟩).2, j.rest ++ b ++ List.replicate (upN b.length - b.length) 0, j.place + upN b.length, if t = headT ∧ 12 ≤ b.length then some (j.place + 8) else j.hole⟩

/-- the first i tables joined -/
def joinL (ts bs : List (List Int)) (n : Nat) : Nat → Option JoinS
  | 0 => some ⟨headL n, [], 12 + 16 * n, none⟩
  | i + 1 => (joinL ts bs n i).bind fun j => joinOne j (ts.getD i []) (bs.getD i [])

/-- four bytes put at a place -/
def setFour (l : List Int) (p : Nat) (a : List Int) : List Int := l.take p ++ a.take 4 ++ l.drop (p + 4)

/-- do the names stand in their order, from the second up to the i-th? -/
def inOrder (ts : List (List Int)) (i : Nat) : Bool := (List.range i).all fun k => decide (k = 0) || lessL (ts.getD (k - 1) []) (ts.getD k [])

/-- the end of joining: the sum of the whole -/
def joinEnd (j : JoinS) : List Int :=
  match j.hole with
  | none => j.recs ++ j.rest
  | some p => setFour (j.recs ++ j.rest) p (putA [(2981146554 - sumS (setFour (j.recs ++ j.rest) p [0, 0, 0, 0])) % 4294967296] ⟨#[73]⟩).2

/-- the bytes, the error's number -/
def joinS (ts bs : List (List Int)) : List Int × Int :=
  if ts.length ≠ bs.length ∨ ts.length < 1 ∨ 64 < ts.length then ([], 2) else
    if inOrder ts ts.length = false then ([], 2) else
      match joinL ts bs ts.length ts.length with
      | none => ([], 3)
      | some j => if 16777216 < j.place then ([], 3) else (joinEnd j, 0)

theorem upN_le (n : Nat) : n ≤ upN n ∧ upN n ≤ n + 3 ∧ upN n % 4 = 0 := by unfold upN; omega

theorem inOrder_next (ts : List (List Int)) (i : Nat) : inOrder ts (i + 1) = (inOrder ts i && (decide (i = 0) || lessL (ts.getD (i - 1) []) (ts.getD i []))) := by
  unfold inOrder
  rw [List.range_succ, List.all_append]; simp

theorem inOrder_less (ts : List (List Int)) (i : Nat) : ∀ k, inOrder ts i = false → inOrder ts (i + k) = false
  | 0, h => h
  | k + 1, h => by rw [show i + (k + 1) = (i + k) + 1 by omega, inOrder_next, inOrder_less ts i k h]; rfl

theorem joinL_none (ts bs : List (List Int)) (n i : Nat) : ∀ k, joinL ts bs n i = none → joinL ts bs n (i + k) = none
  | 0, h => h
  | k + 1, h => by
    show joinL ts bs n (i + k + 1) = none
    unfold joinL
    rw [joinL_none ts bs n i k h]; rfl

/-- the rest is whole fours; the next table goes right behind it -/
theorem joinL_place (ts bs : List (List Int)) (n : Nat) : ∀ i j, joinL ts bs n i = some j → j.rest.length % 4 = 0 ∧ j.place = 12 + 16 * n + j.rest.length
  | 0, j, h => by simp only [joinL, Option.some.injEq] at h; rw [← h]; simp
  | i + 1, j, h => by
    unfold joinL at h
    cases hp : joinL ts bs n i with
    | none => rw [hp] at h; cases h
    | some j0 =>
      rw [hp] at h
      simp only [Option.bind_some] at h
      unfold joinOne at h
      split at h
      · cases h
      · have hj := joinL_place ts bs n i j0 hp
        have hu := upN_le (bs.getD i []).length
        rw [← Option.some.inj h]
        simp only [List.length_append, List.length_replicate]
        omega
end Go.Proofs.Ytijmponhkabeiaa
