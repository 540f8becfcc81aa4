/-
  Joined.
-/
import Derived.Test.YtdbimchiecdkoaaGreatPJ
import Derived.Test.YtdbimchiecdkoaaGreatSg1
namespace Go.Proofs.YtdbimchiecdkoaaGreat
open Go Go.RowKit
set_option linter.unusedVariables false
set_option linter.unusedSimpArgs false
theorem w64s {x : Int} (h0 : -9223372036854775808 ≤ x) (h1 : x ≤ 9223372036854775807) : IntKind.i64.wrap x = x := by rw [IntKind.wrap_i64]; omega
theorem wu64 {m : Nat} (h : m < 2 ^ 64) : IntKind.u64.wrap (m : Int) = (m : Int) := by rw [IntKind.wrap_u64]; omega
theorem ishl_one {c : Nat} (hc : c < 64) : ishl .u64 1 (c : Int) = ((2 ^ c : Nat) : Int) := by
  unfold ishl
  have h : (2 : Nat) ^ c < 2 ^ 64 := Nat.pow_lt_pow_right (by omega) hc
  rw [show min (c : Int).toNat IntKind.u64.bits = c from by show min (c : Int).toNat 64 = c; omega, Int.one_mul]
  have := wu64 h
  rw [Int.natCast_pow] at this ⊢
  exact this
theorem ior_bit {m c : Nat} (hm : m < 2 ^ 64) (hc : c < 64) : ior .u64 (m : Int) (ishl .u64 1 (c : Int)) = ((m ||| 2 ^ c : Nat) : Int) := by
  have h : (2 : Nat) ^ c < 2 ^ 64 := Nat.pow_lt_pow_right (by omega) hc
  rw [ishl_one hc]
  unfold ior
  rw [show IntKind.u64.bits = 64 from rfl, BitVec.toNat_or, BitVec.ofInt_natCast, BitVec.ofInt_natCast, BitVec.toNat_ofNat, BitVec.toNat_ofNat, Nat.mod_eq_of_lt hm, Nat.mod_eq_of_lt h]
  exact wu64 (Nat.or_lt_two_pow hm h)
theorem has_bit {N m c : Nat} (hm : m < 2 ^ 64) (hc : c < 64) : pHasC N (m : Int) (c : Int) = some (m.testBit c) := by
  unfold pHasC
  rw [if_neg (by omega)]
  congr 1
  have h1 : ishr .u64 (m : Int) (c : Int) = ((m / 2 ^ c : Nat) : Int) := by
    unfold ishr
    rw [show min (c : Int).toNat IntKind.u64.bits = c from by show min (c : Int).toNat 64 = c; omega, Int.fdiv_eq_ediv_of_nonneg _ (Int.le_of_lt (Int.pow_pos (by decide)))]
    simp
  rw [h1]
  unfold iand
  rw [show IntKind.u64.bits = 64 from rfl, show (1 : Int) = ((1 : Nat) : Int) from rfl, BitVec.toNat_and, BitVec.ofInt_natCast, BitVec.ofInt_natCast, BitVec.toNat_ofNat, BitVec.toNat_ofNat, Nat.mod_eq_of_lt (Nat.lt_of_le_of_lt (Nat.div_le_self _ _) hm), show 1 % 2 ^ 64 = 1 from rfl, Nat.and_one_is_mod, wu64 (by omega), Nat.testBit_eq_decide_div_mod_eq]
  rcases Nat.mod_two_eq_zero_or_one (m / 2 ^ c) with h | h <;> rw [h] <;> rfl
def setM (L : List Int) (m : Nat) : Nat := L.foldl (fun m c => m ||| 2 ^ c.toNat) m
def In63 (L : List Int) : Prop := ∀ c ∈ L, 0 ≤ c ∧ c ≤ 63
theorem setM_lt : ∀ (L : List Int) (m : Nat), In63 L → m < 2 ^ 64 → setM L m < 2 ^ 64
  | [], m, _, h => h
  | c :: L, m, hL, h => by
    have hc := hL c (by simp)
    exact setM_lt L _ (fun d hd => hL d (by simp [hd])) (Nat.or_lt_two_pow h (Nat.pow_lt_pow_right (by omega) (by omega)))
theorem setM_bit : ∀ (L : List Int) (m c : Nat), In63 L → (setM L m).testBit c = (m.testBit c || L.contains (c : Int))
  | [], m, c, _ => by simp [setM]
  | d :: L, m, c, hL => by
    have hd := hL d (by simp)
    show (setM L (m ||| 2 ^ d.toNat)).testBit c = _
    rw [setM_bit L _ c (fun e he => hL e (by simp [he])), Nat.testBit_or, Nat.testBit_two_pow, List.contains_cons, Bool.or_assoc]
    congr 2
    rw [Bool.eq_iff_iff, decide_eq_true_eq, beq_iff_eq]
    omega
theorem setOf_L1 (N : Nat) (L : List Int) (hL : In63 L) (hl : L.length ≤ 1000) : ∀ (k i m : Nat), L.length - i < k → i ≤ L.length → m < 2 ^ 64 → pSetOf_L1 N L k (m : Int) (i : Int) = some ((setM (L.drop i) m : Nat) : Int)
  | 0, i, m, hk, _, _ => by omega
  | k + 1, i, m, hk, hi, hm => by
    unfold pSetOf_L1
    by_cases h : i < L.length
    · rw [if_pos (by omega)]
      have hx : ix L (i : Int) = some L[i] := by
        unfold ix; rw [if_pos ⟨by omega, by omega⟩]; simp [h]
      rw [hx, Option.bind_some]
      have hc := hL L[i] (List.getElem_mem h)
      rw [if_neg (by omega), w64s (by omega) (by omega)]
      obtain ⟨c, hcc⟩ : ∃ c : Nat, L[i] = (c : Int) := ⟨L[i].toNat, by omega⟩
      rw [hcc, ior_bit hm (by omega)]
      have := setOf_L1 N L hL hl k (i + 1) (m ||| 2 ^ c) (by omega) h (Nat.or_lt_two_pow hm (Nat.pow_lt_pow_right (by omega) (by omega)))
      rw [show ((i : Int) + 1) = ((i + 1 : Nat) : Int) by omega, this, List.drop_eq_getElem_cons h, hcc]
      rfl
    · rw [if_neg (by omega), List.drop_eq_nil_of_le (by omega)]
      rfl
theorem pSetOf_eq {N : Nat} {L : List Int} (hL : In63 L) (hl : L.length ≤ 1000) (hN : L.length < N) : pSetOf N L = some ((setM L 0 : Nat) : Int) := by
  unfold pSetOf
  have := setOf_L1 N L hL hl N 0 0 (by omega) (by omega) (by omega)
  rw [show ((0 : Nat) : Int) = 0 from rfl] at this
  rw [this]
  rfl
theorem pHas_eq {N N' : Nat} {L : List Int} {x c : Int} (hL : In63 L) (hl : L.length ≤ 1000) (hN : L.length < N) (h : pSetOf N L = some x) (h0 : 0 ≤ c) (h1 : c ≤ 63) : pHasC N' x c = some (L.contains c) := by
  rw [pSetOf_eq hL hl hN] at h
  obtain rfl := Option.some.inj h
  obtain ⟨d, rfl⟩ : ∃ d : Nat, c = (d : Int) := ⟨c.toNat, by omega⟩
  rw [has_bit (setM_lt L 0 hL (by omega)) (by omega), setM_bit L 0 d hL]
  simp
section
variable (cls : Int → Int) (wd : Int → Bool)
open Sg
def UnitAt (l cl : List Int) (p n : Nat) (u : U) : Prop :=
  u.2.2.1 = (n : Int) + 1 ∧ cl[p]? = some u.1 ∧ l[p]? = some u.2.1 ∧ (∀ i, 1 ≤ i → i ≤ n → cl[p + i]? = some 39) ∧ (∃ x, l[p + n]? = some x ∧ (cls x == 10) = u.2.2.2.1) ∧ u.2.2.2.2 = wd u.2.1 ∧ 0 ≤ u.1 ∧ u.1 ≤ 37
def LayR (l cl : List Int) : Nat → List U → Prop
  | q, [] => q = l.length
  | q, u :: R => ∃ n, UnitAt cls wd l cl q n u ∧ LayR l cl (q + n + 1) R
def LayL (l cl : List Int) : Nat → List U → Prop
  | q, [] => q = 0
  | q, u :: L => ∃ p n, q = p + n + 1 ∧ UnitAt cls wd l cl p n u ∧ LayL l cl p L
def Lk (l cl : List Int) (i : Int) : List U → Prop
  | [] => ¬ (0 ≤ i ∧ i < (l.length : Int))
  | u :: _ => 0 ≤ i ∧ i < (l.length : Int) ∧ cl[i.toNat]? = some u.1 ∧ l[i.toNat]? = some u.2.1 ∧ u.2.2.2.2 = wd u.2.1 ∧ 0 ≤ u.1 ∧ u.1 ≤ 37
end
open Sg
abbrev wdC : Int → Bool := fun r => anyL E0 wideL r
def In37 (L : List Int) : Prop := ∀ c ∈ L, 0 ≤ c ∧ c ≤ 37
theorem ix_of {l : List Int} {i v : Int} (h0 : 0 ≤ i) (h1 : i < (l.length : Int)) (h : l[i.toNat]? = some v) : ix l i = some v := by
  unfold ix
  rw [if_pos ⟨h0, h1⟩]
  simp [List.getD_eq_getElem?_getD, h]
section
variable {N : Nat} {l cl : List Int} {o p q n m j k : Int} {nA nu od : Bool} {i : Int} {X : List U}
theorem pThere_eq (hl : cl.length = l.length) (h : Lk wdC l cl i X) : pThere N l cl o p q n m j k nA nu od i = some (!X.isEmpty) := by
  unfold pThere
  cases X with
  | nil =>
    simp only [Lk] at h
    by_cases h0 : i ≥ 0
    · rw [if_pos h0, hl, decide_eq_false (by omega)]; rfl
    · rw [if_neg h0]; rfl
  | cons u X =>
    simp only [Lk] at h
    rw [if_pos (by omega), hl, decide_eq_true (by omega)]; rfl
theorem contains_no {L : List Int} (hL : In37 L) {c : Int} (h : c < 0 ∨ 37 < c) : L.contains c = false := by
  cases hc : L.contains c with
  | false => rfl
  | true =>
    have := hL c (by simpa using hc)
    omega
theorem pIs0 (hl : cl.length = l.length) (h : Lk wdC l cl i X) {L : List Int} (hL : In63 L) (hn : L.length ≤ 1000) (hN : L.length < N) :
    pIs N l cl o p q n m j k nA nu od i L = some (L.contains (match X with | [] => 38 | u :: _ => u.1)) := by
  unfold pIs
  rw [pThere_eq hl h, Option.bind_some]
  have hs := pSetOf_eq hL hn hN
  cases X with
  | nil =>
    simp only [List.isEmpty_nil, Bool.not_true]
    rw [hs, Option.bind_some, pHas_eq (N' := N) hL hn hN hs (by omega) (by omega)]
    rfl
  | cons u X =>
    simp only [Lk] at h
    simp only [List.isEmpty_cons, Bool.not_false]
    rw [ix_of h.1 (by omega) h.2.2.1, Option.bind_some, hs, Option.bind_some, pHas_eq (N' := N) hL hn hN hs (by omega) (by omega)]
    rfl
theorem pIs_eq (hl : cl.length = l.length) (h : Lk wdC l cl i X) {L : List Int} (hL : In37 L) (hn : L.length ≤ 1000) (hN : L.length < N) :
    pIs N l cl o p q n m j k nA nu od i L = some (L.contains (at0 X)) := by
  rw [pIs0 hl h (fun c hc => ⟨(hL c hc).1, by have := (hL c hc).2; omega⟩) hn hN]
  cases X with
  | nil => rw [contains_no (c := 38) hL (.inr (by decide))]; show _ = some (L.contains 99); rw [contains_no hL (.inr (by decide))]
  | cons u X => rfl
def edgeC (c : Int) : Bool := c == 99 || c == 1 || c == 2 || c == 3 || c == 4 || c == 5 || c == 6 || c == 8
theorem pEdge_eq (hl : cl.length = l.length) (h : Lk wdC l cl i X) (hN : 60 ≤ N) : pEdge N l cl o p q n m j k nA nu od i = some (edgeC (at0 X)) := by
  unfold pEdge
  rw [pIs0 hl h (by intro c hc; simp at hc; omega) (by simp) (by simp; omega), Option.bind_some]
  cases X with
  | nil => rfl
  | cons u X =>
    simp only [Lk] at h
    congr 1
    show ([38, 1, 2, 3, 4, 5, 6, 8] : List Int).contains u.1 = edgeC u.1
    rw [Bool.eq_iff_iff]
    simp [edgeC]
    omega
theorem pBegins_eq (hl : cl.length = l.length) (h : Lk wdC l cl i X) (r : Int) : pBegins N l cl o p q n m j k nA nu od i r = some (!X.isEmpty && r0 X == r) := by
  unfold pBegins
  rw [pThere_eq hl h, Option.bind_some]
  cases X with
  | nil => rfl
  | cons u X =>
    simp only [Lk] at h
    simp only [List.isEmpty_cons, Bool.not_false]
    rw [ix_of h.1 (by omega) h.2.2.2.1, Option.bind_some]
    congr 1
theorem pWide_eq (hl : cl.length = l.length) (h : Lk wdC l cl i X) : pWide N l cl o p q n m j k nA nu od i = some (wd0 X) := by
  unfold pWide
  rw [pThere_eq hl h, Option.bind_some]
  cases X with
  | nil => rfl
  | cons u X =>
    simp only [Lk] at h
    simp only [List.isEmpty_cons, Bool.not_false]
    rw [ix_of h.1 (by omega) h.2.2.2.1, Option.bind_some]
    show (ucWd N u.2.1).bind _ = some u.2.2.2.2
    rw [h.2.2.2.2.1]
    rfl
theorem pQuotes_L1_eq {x : Int} (N : Nat) (hx : ix l i = some x) : ∀ (k : Nat) (S : List Int), S.length < k → pQuotes_L1 N l i k S = some (if S.contains x then Ctl.ret true else Ctl.go ())
  | 0, S, h => by omega
  | k + 1, [], h => rfl
  | k + 1, y :: S, h => by
    unfold pQuotes_L1
    simp only []
    rw [hx, Option.bind_some]
    by_cases e : x = y
    · rw [if_pos e, List.contains_cons, e]; simp
    · rw [if_neg e, pQuotes_L1_eq N hx k S (by simpa using h), List.contains_cons, beq_false_of_ne e, Bool.false_or]
theorem pQuotes_eq (hl : cl.length = l.length) (h : Lk wdC l cl i X) {s : ByteArray} {S : List Int} (hs : runesL s s.size 0 = S) (hN : 60 ≤ N) (hS : S.length < N) :
    pQuotes N l cl o p q n m j k nA nu od i s = some (at0 X == 22 && S.contains (r0 X)) := by
  unfold pQuotes
  rw [pIs_eq hl h (by intro c hc; simp at hc; omega) (by simp) (by simp; omega), Option.bind_some, hs]
  have e : ([22] : List Int).contains (at0 X) = (at0 X == 22) := by rw [List.contains_cons]; simp
  rw [e]
  cases hb : at0 X == 22 with
  | false => rfl
  | true =>
    cases X with
    | nil => exact absurd hb (by decide)
    | cons u X =>
      simp only [Lk] at h
      simp only []
      rw [pQuotes_L1_eq N (ix_of h.1 (by omega) h.2.2.2.1) N S hS, Option.bind_some]
      show (match (if S.contains u.2.1 then Ctl.ret true else Ctl.go () : Ctl Unit Bool) with | Ctl.go () => some false | Ctl.ret r => some r) = some (true && S.contains u.2.1)
      cases S.contains u.2.1 <;> rfl
theorem pOpens_eq (hl : cl.length = l.length) (h : Lk wdC l cl i X) (hN : 60 ≤ N) : pOpens N l cl o p q n m j k nA nu od i = some (opnL X) := by
  unfold pOpens
  rw [pQuotes_eq hl h (S := [0xAB, 0x2018, 0x201B, 0x201C, 0x201F, 0x2039]) (by kernel_rfl) hN (by simp; omega), Option.bind_some]
  cases X with
  | nil => rfl
  | cons u X => congr 1; rw [Bool.eq_iff_iff]; simp [opnL, opn, at0, r0]; omega
theorem pCloses_eq (hl : cl.length = l.length) (h : Lk wdC l cl i X) (hN : 60 ≤ N) : pCloses N l cl o p q n m j k nA nu od i = some (clsL X) := by
  unfold pCloses
  rw [pQuotes_eq hl h (S := [0xBB, 0x2019, 0x201D, 0x203A]) (by kernel_rfl) hN (by simp; omega), Option.bind_some]
  cases X with
  | nil => rfl
  | cons u X => congr 1; rw [Bool.eq_iff_iff]; simp [clsL, cls0, at0, r0]; omega
end
end Go.Proofs.YtdbimchiecdkoaaGreat

namespace Go.Proofs.YtdbimchiecdkoaaGreat
open Go Go.RowKit Sg
set_option linter.unusedVariables false
set_option linter.unusedSimpArgs false
def rest42 (nA nu od : Bool) (L R : List U) : Int := if (true) = true then 1 else 0
def rest41 (nA nu od : Bool) (L R : List U) : Int := if (([30] : List Int).contains (at0 L) && ([31] : List Int).contains (at0 R)) = true then 0 else rest42 nA nu od L R
def rest40 (nA nu od : Bool) (L R : List U) : Int := if (od && ([32] : List Int).contains (at0 R)) = true then 0 else rest41 nA nu od L R
def rest39 (nA nu od : Bool) (L R : List U) : Int := if ((((([0, 28] : List Int).contains (at0 L)  ||  ([27] : List Int).contains (at0 L)) && ([19] : List Int).contains (at0 R)) && (!wd0 R)) || ((([20] : List Int).contains (at0 L) && (!wd0 L)) && (([0, 28] : List Int).contains (at0 R)  ||  ([27] : List Int).contains (at0 R)))) = true then 0 else rest40 nA nu od L R
def rest38 (nA nu od : Bool) (L R : List U) : Int := if (([23] : List Int).contains (at0 L) && ([0, 28] : List Int).contains (at0 R)) = true then 0 else rest39 nA nu od L R
def rest37 (nA nu od : Bool) (L R : List U) : Int := if (([0, 28] : List Int).contains (at0 L) && ([0, 28] : List Int).contains (at0 R)) = true then 0 else rest38 nA nu od L R
def rest36 (nA nu od : Bool) (L R : List U) : Int := if ((([33, 34, 35, 36, 37] : List Int).contains (at0 L) && ([25] : List Int).contains (at0 R)) || (([26] : List Int).contains (at0 L) && ([33, 34, 35, 36, 37] : List Int).contains (at0 R))) = true then 0 else rest37 nA nu od L R
def rest35 (nA nu od : Bool) (L R : List U) : Int := if (((([33] : List Int).contains (at0 L) && ([33, 34, 36, 37] : List Int).contains (at0 R)) || (([34, 36] : List Int).contains (at0 L) && ([34, 35] : List Int).contains (at0 R))) || (([35, 37] : List Int).contains (at0 L) && ([35] : List Int).contains (at0 R))) = true then 0 else rest36 nA nu od L R
def rest34 (nA nu od : Bool) (L R : List U) : Int := if (nu && ([27] : List Int).contains (at0 R)) = true then 0 else rest35 nA nu od L R
def rest33 (nA nu od : Bool) (L R : List U) : Int := if (([14, 23] : List Int).contains (at0 L) && ([27] : List Int).contains (at0 R)) = true then 0 else rest34 nA nu od L R
def rest32 (nA nu od : Bool) (L R : List U) : Int := if (([26, 25] : List Int).contains (at0 L) && (([27] : List Int).contains (at0 R) || (([19] : List Int).contains (at0 R) && (([27] : List Int).contains (at0 (R.drop 1)) || (([23] : List Int).contains (at0 (R.drop 1)) && ([27] : List Int).contains (at0 (R.drop 2))))))) = true then 0 else rest33 nA nu od L R
def rest31 (nA nu od : Bool) (L R : List U) : Int := if (([26, 25] : List Int).contains (at0 R) && (nu || (nA && ([21, 20] : List Int).contains (at0 L)))) = true then 0 else rest32 nA nu od L R
def rest30 (nA nu od : Bool) (L R : List U) : Int := if ((([26, 25] : List Int).contains (at0 L) && ([0, 28] : List Int).contains (at0 R)) || (([0, 28] : List Int).contains (at0 L) && ([26, 25] : List Int).contains (at0 R))) = true then 0 else rest31 nA nu od L R
def rest29 (nA nu od : Bool) (L R : List U) : Int := if ((([26] : List Int).contains (at0 L) && ([29, 30, 31] : List Int).contains (at0 R)) || (([29, 30, 31] : List Int).contains (at0 L) && ([25] : List Int).contains (at0 R))) = true then 0 else rest30 nA nu od L R
def rest28 (nA nu od : Bool) (L R : List U) : Int := if ((([0, 28] : List Int).contains (at0 L) && ([27] : List Int).contains (at0 R)) || (([27] : List Int).contains (at0 L) && ([0, 28] : List Int).contains (at0 R))) = true then 0 else rest29 nA nu od L R
def rest27 (nA nu od : Bool) (L R : List U) : Int := if (([17] : List Int).contains (at0 R)) = true then 0 else rest28 nA nu od L R
def rest26 (nA nu od : Bool) (L R : List U) : Int := if (([24] : List Int).contains (at0 L) && ([28] : List Int).contains (at0 R)) = true then 0 else rest27 nA nu od L R
def rest25 (nA nu od : Bool) (L R : List U) : Int := if ((([28] : List Int).contains (at0 (L.drop 1)) && (([14] : List Int).contains (at0 L) || (([11] : List Int).contains (at0 L) && (!wd0 L)))) && (!([28] : List Int).contains (at0 R))) = true then 0 else rest26 nA nu od L R
def rest24 (nA nu od : Bool) (L R : List U) : Int := if (([11, 14, 18] : List Int).contains (at0 R) || ([12] : List Int).contains (at0 L)) = true then 0 else rest25 nA nu od L R
def rest23 (nA nu od : Bool) (L R : List U) : Int := if ((((([14] : List Int).contains (at0 L) || (!L.isEmpty  &&  r0 L == 8208)) && ([0] : List Int).contains (at0 R)) && (edgeC (at0 (L.drop 1)) || ([15] : List Int).contains (at0 (L.drop 1))))) = true then 0 else rest24 nA nu od L R
def rest22 (nA nu od : Bool) (L R : List U) : Int := if (([15] : List Int).contains (at0 L) || ([15] : List Int).contains (at0 R)) = true then 1 else rest23 nA nu od L R
def rest21 (nA nu od : Bool) (L R : List U) : Int := if (([22] : List Int).contains (at0 L) && !(wd0 R && wd0 (L.drop 1))) = true then 0 else rest22 nA nu od L R
def rest20 (nA nu od : Bool) (L R : List U) : Int := if (([22] : List Int).contains (at0 R) && !(wd0 L && wd0 (R.drop 1))) = true then 0 else rest21 nA nu od L R
def rest19 (nA nu od : Bool) (L R : List U) : Int := if (([22] : List Int).contains (at0 L) && (!clsL L)) = true then 0 else rest20 nA nu od L R
def rest18 (nA nu od : Bool) (L R : List U) : Int := if (([22] : List Int).contains (at0 R) && (!opnL R)) = true then 0 else rest19 nA nu od L R
def rest17 (nA nu od : Bool) (L R : List U) : Int := if (([5] : List Int).contains (at0 L)) = true then 1 else rest18 nA nu od L R
def rest16 (nA nu od : Bool) (L R : List U) : Int := if (([13] : List Int).contains (at0 (spk L)) && ([13] : List Int).contains (at0 R)) = true then 0 else rest17 nA nu od L R
def rest15 (nA nu od : Bool) (L R : List U) : Int := if (([21, 20] : List Int).contains (at0 (spk L)) && ([18] : List Int).contains (at0 R)) = true then 0 else rest16 nA nu od L R
def rest14 (nA nu od : Bool) (L R : List U) : Int := if (([23] : List Int).contains (at0 R)) = true then 0 else rest15 nA nu od L R
def rest13 (nA nu od : Bool) (L R : List U) : Int := if ((([5] : List Int).contains (at0 L) && ([23] : List Int).contains (at0 R)) && ([27] : List Int).contains (at0 (R.drop 1))) = true then 1 else rest14 nA nu od L R
def rest12 (nA nu od : Bool) (L R : List U) : Int := if (clsL R && (edgeC (at0 (R.drop 1)) || ([7, 21, 22, 20, 16, 23, 24] : List Int).contains (at0 (R.drop 1)))) = true then 0 else rest13 nA nu od L R
def rest11 (nA nu od : Bool) (L R : List U) : Int := if (opnL (spk L) && (edgeC (at0 ((spk L).drop 1)) || ([19, 22] : List Int).contains (at0 ((spk L).drop 1)))) = true then 0 else rest12 nA nu od L R
def rest10 (nA nu od : Bool) (L R : List U) : Int := if (([19] : List Int).contains (at0 (spk L))) = true then 0 else rest11 nA nu od L R
def rest9 (nA nu od : Bool) (L R : List U) : Int := if (([21, 20, 16, 24] : List Int).contains (at0 R)) = true then 0 else rest10 nA nu od L R
def rest8 (nA nu od : Bool) (L R : List U) : Int := if (([8] : List Int).contains (at0 R) && (!([5, 11, 14] : List Int).contains (at0 L))) = true then 0 else rest9 nA nu od L R
def rest7 (nA nu od : Bool) (L R : List U) : Int := if (([8] : List Int).contains (at0 L)) = true then 0 else rest8 nA nu od L R
def rest6 (nA nu od : Bool) (L R : List U) : Int := if (([7] : List Int).contains (at0 L) || ([7] : List Int).contains (at0 R)) = true then 0 else rest7 nA nu od L R
def rest5 (nA nu od : Bool) (L R : List U) : Int := if (zw0 L) = true then 0 else rest6 nA nu od L R
def rest4 (nA nu od : Bool) (L R : List U) : Int := if (([6] : List Int).contains (at0 (spk L))) = true then 1 else rest5 nA nu od L R
def rest3 (nA nu od : Bool) (L R : List U) : Int := if (([1, 2, 3, 4, 5, 6] : List Int).contains (at0 R)) = true then 0 else rest4 nA nu od L R
def rest2 (nA nu od : Bool) (L R : List U) : Int := if (([2, 3, 4] : List Int).contains (at0 L)) = true then 2 else rest3 nA nu od L R
def rest1 (nA nu od : Bool) (L R : List U) : Int := if (([2] : List Int).contains (at0 L) && ([3] : List Int).contains (at0 R)) = true then 0 else rest2 nA nu od L R
def rest0 (nA nu od : Bool) (L R : List U) : Int := if (([1] : List Int).contains (at0 L)) = true then 2 else rest1 nA nu od L R
structure Pl (N : Nat) (l cl : List Int) (o p q n m j k : Int) (L R : List U) : Prop where
  big : 60 ≤ N
  len : cl.length = l.length
  ho : Lk wdC l cl o (L.drop 1)
  hp : Lk wdC l cl p L
  hq : Lk wdC l cl q R
  hn : Lk wdC l cl n (R.drop 1)
  hm : Lk wdC l cl m (R.drop 2)
  hj : Lk wdC l cl j ((spk L).drop 1)
  hk : Lk wdC l cl k (spk L)
  zw : ∃ x, ix l (IntKind.i64.wrap (q - 1)) = some x ∧ (breakC x == 10) = zw0 L
def okS (S : List Int) : Bool := S.all (fun c => decide (0 ≤ c) && decide (c ≤ 37)) && decide (S.length ≤ 50)
theorem narrow_not (X : List U) : narrow X = !wd0 X := by cases X <;> rfl
theorem odd32 (L : List U) (h : oddR L = true) : at0 L = 32 := by
  cases L with
  | nil => cases h
  | cons u L =>
    unfold oddR at h
    split at h
    · rename_i e; show u.1 = 32; simpa using e
    · cases h
theorem r0_is (L : List U) : (!L.isEmpty && r0 L == 8208) = (r0 L == 0x2010) := by cases L <;> rfl
section
variable {c c1 c2 c3 d : Bool} {v x y : Int}
theorem ch1 (h : c = d) (h2 : x = y) : (if c = true then v else x) = (if d = true then v else y) := by rw [h, h2]
theorem ch2 (h : (c1 || c2) = d) (h2 : x = y) : (if c1 = true then v else if c2 = true then v else x) = (if d = true then v else y) := by subst h; subst h2; cases c1 <;> cases c2 <;> rfl
theorem ch3 (h : (c1 || c2 || c3) = d) (h2 : x = y) : (if c1 = true then v else if c2 = true then v else if c3 = true then v else x) = (if d = true then v else y) := by subst h; subst h2; cases c1 <;> cases c2 <;> cases c3 <;> rfl
end
theorem rest_betw (L R : List U) : rest0 (num (L.drop 1)) (num L) (oddR L) L R = betw L R := by
  unfold betw rul lat
  simp only [rest0, rest1, rest2, rest3, rest4, rest5, rest6, rest7, rest8, rest9, rest10, rest11, rest12, rest13, rest14, rest15, rest16, rest17, rest18, rest19, rest20, rest21, rest22, rest23, rest24, rest25, rest26, rest27, rest28, rest29, rest30, rest31, rest32, rest33, rest34, rest35, rest36, rest37, rest38, rest39, rest40, rest41, rest42]
  refine ch1 ?_ ?_
  · (simp only [List.contains_cons, List.contains_nil, Bool.or_false, spaced, inX, inC, inO, inH, letter, hangul, idm, edgeC, narrow_not, r0_is]; first | done | rfl | grind | (rw [Bool.eq_iff_iff]; simp; omega))
  refine ch1 ?_ ?_
  · (simp only [List.contains_cons, List.contains_nil, Bool.or_false, spaced, inX, inC, inO, inH, letter, hangul, idm, edgeC, narrow_not, r0_is]; first | done | rfl | grind | (rw [Bool.eq_iff_iff]; simp; omega))
  refine ch1 ?_ ?_
  · (simp only [List.contains_cons, List.contains_nil, Bool.or_false, spaced, inX, inC, inO, inH, letter, hangul, idm, edgeC, narrow_not, r0_is]; first | done | rfl | grind | (rw [Bool.eq_iff_iff]; simp; omega))
  refine ch1 ?_ ?_
  · (simp only [List.contains_cons, List.contains_nil, Bool.or_false, spaced, inX, inC, inO, inH, letter, hangul, idm, edgeC, narrow_not, r0_is]; first | done | rfl | grind | (rw [Bool.eq_iff_iff]; simp; omega))
  refine ch1 ?_ ?_
  · (simp only [List.contains_cons, List.contains_nil, Bool.or_false, spaced, inX, inC, inO, inH, letter, hangul, idm, edgeC, narrow_not, r0_is]; first | done | rfl | grind | (rw [Bool.eq_iff_iff]; simp; omega))
  refine ch3 ?_ ?_
  · (simp only [List.contains_cons, List.contains_nil, Bool.or_false, spaced, inX, inC, inO, inH, letter, hangul, idm, edgeC, narrow_not, r0_is]; first | done | rfl | grind | (rw [Bool.eq_iff_iff]; simp; omega))
  refine ch1 ?_ ?_
  · (simp only [List.contains_cons, List.contains_nil, Bool.or_false, spaced, inX, inC, inO, inH, letter, hangul, idm, edgeC, narrow_not, r0_is]; first | done | rfl | grind | (rw [Bool.eq_iff_iff]; simp; omega))
  refine ch2 ?_ ?_
  · (simp only [List.contains_cons, List.contains_nil, Bool.or_false, spaced, inX, inC, inO, inH, letter, hangul, idm, edgeC, narrow_not, r0_is]; first | done | rfl | grind | (rw [Bool.eq_iff_iff]; simp; omega))
  refine ch1 ?_ ?_
  · (simp only [List.contains_cons, List.contains_nil, Bool.or_false, spaced, inX, inC, inO, inH, letter, hangul, idm, edgeC, narrow_not, r0_is]; first | done | rfl | grind | (rw [Bool.eq_iff_iff]; simp; omega))
  refine ch1 ?_ ?_
  · (simp only [List.contains_cons, List.contains_nil, Bool.or_false, spaced, inX, inC, inO, inH, letter, hangul, idm, edgeC, narrow_not, r0_is]; first | done | rfl | grind | (rw [Bool.eq_iff_iff]; simp; omega))
  refine ch1 ?_ ?_
  · (simp only [List.contains_cons, List.contains_nil, Bool.or_false, spaced, inX, inC, inO, inH, letter, hangul, idm, edgeC, narrow_not, r0_is]; first | done | rfl | grind | (rw [Bool.eq_iff_iff]; simp; omega))
  refine ch3 ?_ ?_
  · (simp only [List.contains_cons, List.contains_nil, Bool.or_false, spaced, inX, inC, inO, inH, letter, hangul, idm, edgeC, narrow_not, r0_is]; first | done | rfl | grind | (rw [Bool.eq_iff_iff]; simp; omega))
  refine ch1 ?_ ?_
  · (simp only [List.contains_cons, List.contains_nil, Bool.or_false, spaced, inX, inC, inO, inH, letter, hangul, idm, edgeC, narrow_not, r0_is]; first | done | rfl | grind | (rw [Bool.eq_iff_iff]; simp; omega))
  refine ch2 ?_ ?_
  · (simp only [List.contains_cons, List.contains_nil, Bool.or_false, spaced, inX, inC, inO, inH, letter, hangul, idm, edgeC, narrow_not, r0_is]; first | done | rfl | grind | (rw [Bool.eq_iff_iff]; simp; omega))
  refine ch2 ?_ ?_
  · (simp only [List.contains_cons, List.contains_nil, Bool.or_false, spaced, inX, inC, inO, inH, letter, hangul, idm, edgeC, narrow_not, r0_is]; first | done | rfl | grind | (rw [Bool.eq_iff_iff]; simp; omega))
  refine ch1 ?_ ?_
  · (simp only [List.contains_cons, List.contains_nil, Bool.or_false, spaced, inX, inC, inO, inH, letter, hangul, idm, edgeC, narrow_not, r0_is]; first | done | rfl | grind | (rw [Bool.eq_iff_iff]; simp; omega))
  refine ch1 ?_ ?_
  · (simp only [List.contains_cons, List.contains_nil, Bool.or_false, spaced, inX, inC, inO, inH, letter, hangul, idm, edgeC, narrow_not, r0_is]; first | done | rfl | grind | (rw [Bool.eq_iff_iff]; simp; omega))
  refine ch1 ?_ ?_
  · (simp only [List.contains_cons, List.contains_nil, Bool.or_false, spaced, inX, inC, inO, inH, letter, hangul, idm, edgeC, narrow_not, r0_is]; first | done | rfl | grind | (rw [Bool.eq_iff_iff]; simp; omega))
  refine ch1 ?_ ?_
  · (simp only [List.contains_cons, List.contains_nil, Bool.or_false, spaced, inX, inC, inO, inH, letter, hangul, idm, edgeC, narrow_not, r0_is]; first | done | rfl | grind | (rw [Bool.eq_iff_iff]; simp; omega))
  refine ch2 ?_ ?_
  · (simp only [List.contains_cons, List.contains_nil, Bool.or_false, spaced, inX, inC, inO, inH, letter, hangul, idm, edgeC, narrow_not, r0_is]; first | done | rfl | grind | (rw [Bool.eq_iff_iff]; simp; omega))
  refine ch1 ?_ ?_
  · (simp only [List.contains_cons, List.contains_nil, Bool.or_false, spaced, inX, inC, inO, inH, letter, hangul, idm, edgeC, narrow_not, r0_is]; first | done | rfl | grind | (rw [Bool.eq_iff_iff]; simp; omega))
  refine ch1 ?_ ?_
  · (simp only [List.contains_cons, List.contains_nil, Bool.or_false, spaced, inX, inC, inO, inH, letter, hangul, idm, edgeC, narrow_not, r0_is]; first | done | rfl | grind | (rw [Bool.eq_iff_iff]; simp; omega))
  refine ch1 ?_ ?_
  · (simp only [List.contains_cons, List.contains_nil, Bool.or_false, spaced, inX, inC, inO, inH, letter, hangul, idm, edgeC, narrow_not, r0_is]; first | done | rfl | grind | (rw [Bool.eq_iff_iff]; simp; omega))
  refine ch1 ?_ ?_
  · (simp only [List.contains_cons, List.contains_nil, Bool.or_false, spaced, inX, inC, inO, inH, letter, hangul, idm, edgeC, narrow_not, r0_is]; first | done | rfl | grind | (rw [Bool.eq_iff_iff]; simp; omega))
  refine ch1 ?_ ?_
  · (simp only [List.contains_cons, List.contains_nil, Bool.or_false, spaced, inX, inC, inO, inH, letter, hangul, idm, edgeC, narrow_not, r0_is]; first | done | rfl | grind | (rw [Bool.eq_iff_iff]; simp; omega))
  refine ch2 ?_ ?_
  · (simp only [List.contains_cons, List.contains_nil, Bool.or_false, spaced, inX, inC, inO, inH, letter, hangul, idm, edgeC, narrow_not, r0_is]; first | done | rfl | grind | (rw [Bool.eq_iff_iff]; simp; omega))
  refine ch1 ?_ ?_
  · (simp only [List.contains_cons, List.contains_nil, Bool.or_false, spaced, inX, inC, inO, inH, letter, hangul, idm, edgeC, narrow_not, r0_is]; first | done | rfl | grind | (rw [Bool.eq_iff_iff]; simp; omega))
  refine ch1 ?_ ?_
  · (simp only [List.contains_cons, List.contains_nil, Bool.or_false, spaced, inX, inC, inO, inH, letter, hangul, idm, edgeC, narrow_not, r0_is]; first | done | rfl | grind | (rw [Bool.eq_iff_iff]; simp; omega))
  refine ch2 ?_ ?_
  · (simp only [List.contains_cons, List.contains_nil, Bool.or_false, spaced, inX, inC, inO, inH, letter, hangul, idm, edgeC, narrow_not, r0_is]; first | done | rfl | grind | (rw [Bool.eq_iff_iff]; simp; omega))
  refine ch1 ?_ ?_
  · (simp only [List.contains_cons, List.contains_nil, Bool.or_false, spaced, inX, inC, inO, inH, letter, hangul, idm, edgeC, narrow_not, r0_is]; first | done | rfl | grind | (rw [Bool.eq_iff_iff]; simp; omega))
  refine ch2 ?_ ?_
  · have h := odd32 L; cases hb : oddR L with
    | false => (simp only [List.contains_cons, List.contains_nil, Bool.or_false, spaced, inX, inC, inO, inH, letter, hangul, idm, edgeC, narrow_not, r0_is]; first | done | rfl | grind | (rw [Bool.eq_iff_iff]; simp; omega))
    | true => have h := h hb; rw [h]; (simp only [List.contains_cons, List.contains_nil, Bool.or_false, spaced, inX, inC, inO, inH, letter, hangul, idm, edgeC, narrow_not, r0_is]; first | done | rfl | grind | (rw [Bool.eq_iff_iff]; simp; omega))
  rfl
end Go.Proofs.YtdbimchiecdkoaaGreat
