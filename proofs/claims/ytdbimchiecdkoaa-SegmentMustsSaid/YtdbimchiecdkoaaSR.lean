/-
  The rules, one behind the other.
-/
import Derived.Test.YtdbimchiecdkoaaSC
namespace Go.Proofs.Ytdbimchiecdkoaa
open Go Go.RowKit Sg
set_option linter.unusedVariables false
set_option linter.unusedSimpArgs false
def rest42 (nA nu od : Bool) (L R : List U) : Int := if (true) = true then 1 else 0
def rest41 (nA nu od : Bool) (L R : List U) : Int := if (([30] : List Int).contains (at0 L) && ([31] : List Int).contains (at0 R)) = true then 0 else rest42 nA nu od L R
def rest40 (nA nu od : Bool) (L R : List U) : Int := if (od && ([32] : List Int).contains (at0 R)) = true then 0 else rest41 nA nu od L R
def rest39 (nA nu od : Bool) (L R : List U) : Int := if ((((([0, 28] : List Int).contains (at0 L)  ||  ([27] : List Int).contains (at0 L)) && ([19] : List Int).contains (at0 R)) && (!wd0 R)) || ((([20] : List Int).contains (at0 L) && (!wd0 L)) && (([0, 28] : List Int).contains (at0 R)  ||  ([27] : List Int).contains (at0 R)))) = true then 0 else rest40 nA nu od L R
def rest38 (nA nu od : Bool) (L R : List U) : Int := if (([23] : List Int).contains (at0 L) && ([0, 28] : List Int).contains (at0 R)) = true then 0 else rest39 nA nu od L R
def rest37 (nA nu od : Bool) (L R : List U) : Int := if (([0, 28] : List Int).contains (at0 L) && ([0, 28] : List Int).contains (at0 R)) = true then 0 else rest38 nA nu od L R
def rest36 (nA nu od : Bool) (L R : List U) : Int := if ((([33, 34, 35, 36, 37] : List Int).contains (at0 L) && ([25] : List Int).contains (at0 R)) || (([26] : List Int).contains (at0 L) && ([33, 34, 35, 36, 37] : List Int).contains (at0 R))) = true then 0 else rest37 nA nu od L R
def rest35 (nA nu od : Bool) (L R : List U) : Int := if (((([33] : List Int).contains (at0 L) && ([33, 34, 36, 37] : List Int).contains (at0 R)) || (([34, 36] : List Int).contains (at0 L) && ([34, 35] : List Int).contains (at0 R))) || (([35, 37] : List Int).contains (at0 L) && ([35] : List Int).contains (at0 R))) = true then 0 else rest36 nA nu od L R
def rest34 (nA nu od : Bool) (L R : List U) : Int := if (nu && ([27] : List Int).contains (at0 R)) = true then 0 else rest35 nA nu od L R
def rest33 (nA nu od : Bool) (L R : List U) : Int := if (([14, 23] : List Int).contains (at0 L) && ([27] : List Int).contains (at0 R)) = true then 0 else rest34 nA nu od L R
def rest32 (nA nu od : Bool) (L R : List U) : Int := if (([26, 25] : List Int).contains (at0 L) && (([27] : List Int).contains (at0 R) || (([19] : List Int).contains (at0 R) && (([27] : List Int).contains (at0 (R.drop 1)) || (([23] : List Int).contains (at0 (R.drop 1)) && ([27] : List Int).contains (at0 (R.drop 2))))))) = true then 0 else rest33 nA nu od L R
def rest31 (nA nu od : Bool) (L R : List U) : Int := if (([26, 25] : List Int).contains (at0 R) && (nu || (nA && ([21, 20] : List Int).contains (at0 L)))) = true then 0 else rest32 nA nu od L R
def rest30 (nA nu od : Bool) (L R : List U) : Int := if ((([26, 25] : List Int).contains (at0 L) && ([0, 28] : List Int).contains (at0 R)) || (([0, 28] : List Int).contains (at0 L) && ([26, 25] : List Int).contains (at0 R))) = true then 0 else rest31 nA nu od L R
def rest29 (nA nu od : Bool) (L R : List U) : Int := if ((([26] : List Int).contains (at0 L) && ([29, 30, 31] : List Int).contains (at0 R)) || (([29, 30, 31] : List Int).contains (at0 L) && ([25] : List Int).contains (at0 R))) = true then 0 else rest30 nA nu od L R
def rest28 (nA nu od : Bool) (L R : List U) : Int := if ((([0, 28] : List Int).contains (at0 L) && ([27] : List Int).contains (at0 R)) || (([27] : List Int).contains (at0 L) && ([0, 28] : List Int).contains (at0 R))) = true then 0 else rest29 nA nu od L R
def rest27 (nA nu od : Bool) (L R : List U) : Int := if (([17] : List Int).contains (at0 R)) = true then 0 else rest28 nA nu od L R
def rest26 (nA nu od : Bool) (L R : List U) : Int := if (([24] : List Int).contains (at0 L) && ([28] : List Int).contains (at0 R)) = true then 0 else rest27 nA nu od L R
def rest25 (nA nu od : Bool) (L R : List U) : Int := if ((([28] : List Int).contains (at0 (L.drop 1)) && (([14] : List Int).contains (at0 L) || (([11] : List Int).contains (at0 L) && (!wd0 L)))) && (!([28] : List Int).contains (at0 R))) = true then 0 else rest26 nA nu od L R
def rest24 (nA nu od : Bool) (L R : List U) : Int := if (([11, 14, 18] : List Int).contains (at0 R) || ([12] : List Int).contains (at0 L)) = true then 0 else rest25 nA nu od L R
def rest23 (nA nu od : Bool) (L R : List U) : Int := if ((((([14] : List Int).contains (at0 L) || (!L.isEmpty  &&  r0 L == 8208)) && ([0] : List Int).contains (at0 R)) && (edgeC (at0 (L.drop 1)) || ([15] : List Int).contains (at0 (L.drop 1))))) = true then 0 else rest24 nA nu od L R
def rest22 (nA nu od : Bool) (L R : List U) : Int := if (([15] : List Int).contains (at0 L) || ([15] : List Int).contains (at0 R)) = true then 1 else rest23 nA nu od L R
def rest21 (nA nu od : Bool) (L R : List U) : Int := if (([22] : List Int).contains (at0 L) && !(wd0 R && wd0 (L.drop 1))) = true then 0 else rest22 nA nu od L R
def rest20 (nA nu od : Bool) (L R : List U) : Int := if (([22] : List Int).contains (at0 R) && !(wd0 L && wd0 (R.drop 1))) = true then 0 else rest21 nA nu od L R
def rest19 (nA nu od : Bool) (L R : List U) : Int := if (([22] : List Int).contains (at0 L) && (!clsL L)) = true then 0 else rest20 nA nu od L R
def rest18 (nA nu od : Bool) (L R : List U) : Int := if (([22] : List Int).contains (at0 R) && (!opnL R)) = true then 0 else rest19 nA nu od L R
def rest17 (nA nu od : Bool) (L R : List U) : Int := if (([5] : List Int).contains (at0 L)) = true then 1 else rest18 nA nu od L R
def rest16 (nA nu od : Bool) (L R : List U) : Int := if (([13] : List Int).contains (at0 (spk L)) && ([13] : List Int).contains (at0 R)) = true then 0 else rest17 nA nu od L R
def rest15 (nA nu od : Bool) (L R : List U) : Int := if (([21, 20] : List Int).contains (at0 (spk L)) && ([18] : List Int).contains (at0 R)) = true then 0 else rest16 nA nu od L R
def rest14 (nA nu od : Bool) (L R : List U) : Int := if (([23] : List Int).contains (at0 R)) = true then 0 else rest15 nA nu od L R
def rest13 (nA nu od : Bool) (L R : List U) : Int := if ((([5] : List Int).contains (at0 L) && ([23] : List Int).contains (at0 R)) && ([27] : List Int).contains (at0 (R.drop 1))) = true then 1 else rest14 nA nu od L R
def rest12 (nA nu od : Bool) (L R : List U) : Int := if (clsL R && (edgeC (at0 (R.drop 1)) || ([7, 21, 22, 20, 16, 23, 24] : List Int).contains (at0 (R.drop 1)))) = true then 0 else rest13 nA nu od L R
def rest11 (nA nu od : Bool) (L R : List U) : Int := if (opnL (spk L) && (edgeC (at0 ((spk L).drop 1)) || ([19, 22] : List Int).contains (at0 ((spk L).drop 1)))) = true then 0 else rest12 nA nu od L R
def rest10 (nA nu od : Bool) (L R : List U) : Int := if (([19] : List Int).contains (at0 (spk L))) = true then 0 else rest11 nA nu od L R
def rest9 (nA nu od : Bool) (L R : List U) : Int := if (([21, 20, 16, 24] : List Int).contains (at0 R)) = true then 0 else rest10 nA nu od L R
def rest8 (nA nu od : Bool) (L R : List U) : Int := if (([8] : List Int).contains (at0 R) && (!([5, 11, 14] : List Int).contains (at0 L))) = true then 0 else rest9 nA nu od L R
def rest7 (nA nu od : Bool) (L R : List U) : Int := if (([8] : List Int).contains (at0 L)) = true then 0 else rest8 nA nu od L R
def rest6 (nA nu od : Bool) (L R : List U) : Int := if (([7] : List Int).contains (at0 L) || ([7] : List Int).contains (at0 R)) = true then 0 else rest7 nA nu od L R
def rest5 (nA nu od : Bool) (L R : List U) : Int := if (zw0 L) = true then 0 else rest6 nA nu od L R
def rest4 (nA nu od : Bool) (L R : List U) : Int := if (([6] : List Int).contains (at0 (spk L))) = true then 1 else rest5 nA nu od L R
def rest3 (nA nu od : Bool) (L R : List U) : Int := if (([1, 2, 3, 4, 5, 6] : List Int).contains (at0 R)) = true then 0 else rest4 nA nu od L R
def rest2 (nA nu od : Bool) (L R : List U) : Int := if (([2, 3, 4] : List Int).contains (at0 L)) = true then 2 else rest3 nA nu od L R
def rest1 (nA nu od : Bool) (L R : List U) : Int := if (([2] : List Int).contains (at0 L) && ([3] : List Int).contains (at0 R)) = true then 0 else rest2 nA nu od L R
def rest0 (nA nu od : Bool) (L R : List U) : Int := if (([1] : List Int).contains (at0 L)) = true then 2 else rest1 nA nu od L R
structure Pl (N : Nat) (l cl : List Int) (o p q n m j k : Int) (L R : List U) : Prop where
  big : 60 ≤ N
  len : cl.length = l.length
  ho : Lk wdC l cl o (L.drop 1)
  hp : Lk wdC l cl p L
  hq : Lk wdC l cl q R
  hn : Lk wdC l cl n (R.drop 1)
  hm : Lk wdC l cl m (R.drop 2)
  hj : Lk wdC l cl j ((spk L).drop 1)
  hk : Lk wdC l cl k (spk L)
  zw : ∃ x, ix l (IntKind.i64.wrap (q - 1)) = some x ∧ (breakC x == 10) = zw0 L
def okS (S : List Int) : Bool := S.all (fun c => decide (0 ≤ c) && decide (c ≤ 37)) && decide (S.length ≤ 50)
theorem narrow_not (X : List U) : narrow X = !wd0 X := by cases X <;> rfl
theorem odd32 (L : List U) (h : oddR L = true) : at0 L = 32 := by
  cases L with
  | nil => cases h
  | cons u L =>
    unfold oddR at h
    split at h
    · rename_i e; show u.1 = 32; simpa using e
    · cases h
theorem r0_is (L : List U) : (!L.isEmpty && r0 L == 8208) = (r0 L == 0x2010) := by cases L <;> rfl
section
variable {c c1 c2 c3 d : Bool} {v x y : Int}
theorem ch1 (h : c = d) (h2 : x = y) : (if c = true then v else x) = (if d = true then v else y) := by rw [h, h2]
theorem ch2 (h : (c1 || c2) = d) (h2 : x = y) : (if c1 = true then v else if c2 = true then v else x) = (if d = true then v else y) := by subst h; subst h2; cases c1 <;> cases c2 <;> rfl
theorem ch3 (h : (c1 || c2 || c3) = d) (h2 : x = y) : (if c1 = true then v else if c2 = true then v else if c3 = true then v else x) = (if d = true then v else y) := by subst h; subst h2; cases c1 <;> cases c2 <;> cases c3 <;> rfl
end
theorem rest_betw (L R : List U) : rest0 (num (L.drop 1)) (num L) (oddR L) L R = betw L R := by
  unfold betw rul lat
  simp only [rest0, rest1, rest2, rest3, rest4, rest5, rest6, rest7, rest8, rest9, rest10, rest11, rest12, rest13, rest14, rest15, rest16, rest17, rest18, rest19, rest20, rest21, rest22, rest23, rest24, rest25, rest26, rest27, rest28, rest29, rest30, rest31, rest32, rest33, rest34, rest35, rest36, rest37, rest38, rest39, rest40, rest41, rest42]
  refine ch1 ?_ ?_
  · (simp only [List.contains_cons, List.contains_nil, Bool.or_false, spaced, inX, inC, inO, inH, letter, hangul, idm, edgeC, narrow_not, r0_is]; first | done | rfl | grind | (rw [Bool.eq_iff_iff]; simp; omega))
  refine ch1 ?_ ?_
  · (simp only [List.contains_cons, List.contains_nil, Bool.or_false, spaced, inX, inC, inO, inH, letter, hangul, idm, edgeC, narrow_not, r0_is]; first | done | rfl | grind | (rw [Bool.eq_iff_iff]; simp; omega))
  refine ch1 ?_ ?_
  · (simp only [List.contains_cons, List.contains_nil, Bool.or_false, spaced, inX, inC, inO, inH, letter, hangul, idm, edgeC, narrow_not, r0_is]; first | done | rfl | grind | (rw [Bool.eq_iff_iff]; simp; omega))
  refine ch1 ?_ ?_
  · (simp only [List.contains_cons, List.contains_nil, Bool.or_false, spaced, inX, inC, inO, inH, letter, hangul, idm, edgeC, narrow_not, r0_is]; first | done | rfl | grind | (rw [Bool.eq_iff_iff]; simp; omega))
  refine ch1 ?_ ?_
  · (simp only [List.contains_cons, List.contains_nil, Bool.or_false, spaced, inX, inC, inO, inH, letter, hangul, idm, edgeC, narrow_not, r0_is]; first | done | rfl | grind | (rw [Bool.eq_iff_iff]; simp; omega))
  refine ch3 ?_ ?_
  · (simp only [List.contains_cons, List.contains_nil, Bool.or_false, spaced, inX, inC, inO, inH, letter, hangul, idm, edgeC, narrow_not, r0_is]; first | done | rfl | grind | (rw [Bool.eq_iff_iff]; simp; omega))
  refine ch1 ?_ ?_
  · (simp only [List.contains_cons, List.contains_nil, Bool.or_false, spaced, inX, inC, inO, inH, letter, hangul, idm, edgeC, narrow_not, r0_is]; first | done | rfl | grind | (rw [Bool.eq_iff_iff]; simp; omega))
  refine ch2 ?_ ?_
  · (simp only [List.contains_cons, List.contains_nil, Bool.or_false, spaced, inX, inC, inO, inH, letter, hangul, idm, edgeC, narrow_not, r0_is]; first | done | rfl | grind | (rw [Bool.eq_iff_iff]; simp; omega))
  refine ch1 ?_ ?_
  · (simp only [List.contains_cons, List.contains_nil, Bool.or_false, spaced, inX, inC, inO, inH, letter, hangul, idm, edgeC, narrow_not, r0_is]; first | done | rfl | grind | (rw [Bool.eq_iff_iff]; simp; omega))
  refine ch1 ?_ ?_
  · (simp only [List.contains_cons, List.contains_nil, Bool.or_false, spaced, inX, inC, inO, inH, letter, hangul, idm, edgeC, narrow_not, r0_is]; first | done | rfl | grind | (rw [Bool.eq_iff_iff]; simp; omega))
  refine ch1 ?_ ?_
  · (simp only [List.contains_cons, List.contains_nil, Bool.or_false, spaced, inX, inC, inO, inH, letter, hangul, idm, edgeC, narrow_not, r0_is]; first | done | rfl | grind | (rw [Bool.eq_iff_iff]; simp; omega))
  refine ch3 ?_ ?_
  · (simp only [List.contains_cons, List.contains_nil, Bool.or_false, spaced, inX, inC, inO, inH, letter, hangul, idm, edgeC, narrow_not, r0_is]; first | done | rfl | grind | (rw [Bool.eq_iff_iff]; simp; omega))
  refine ch1 ?_ ?_
  · (simp only [List.contains_cons, List.contains_nil, Bool.or_false, spaced, inX, inC, inO, inH, letter, hangul, idm, edgeC, narrow_not, r0_is]; first | done | rfl | grind | (rw [Bool.eq_iff_iff]; simp; omega))
  refine ch2 ?_ ?_
  · (simp only [List.contains_cons, List.contains_nil, Bool.or_false, spaced, inX, inC, inO, inH, letter, hangul, idm, edgeC, narrow_not, r0_is]; first | done | rfl | grind | (rw [Bool.eq_iff_iff]; simp; omega))
  refine ch2 ?_ ?_
  · (simp only [List.contains_cons, List.contains_nil, Bool.or_false, spaced, inX, inC, inO, inH, letter, hangul, idm, edgeC, narrow_not, r0_is]; first | done | rfl | grind | (rw [Bool.eq_iff_iff]; simp; omega))
  refine ch1 ?_ ?_
  · (simp only [List.contains_cons, List.contains_nil, Bool.or_false, spaced, inX, inC, inO, inH, letter, hangul, idm, edgeC, narrow_not, r0_is]; first | done | rfl | grind | (rw [Bool.eq_iff_iff]; simp; omega))
  refine ch1 ?_ ?_
  · (simp only [List.contains_cons, List.contains_nil, Bool.or_false, spaced, inX, inC, inO, inH, letter, hangul, idm, edgeC, narrow_not, r0_is]; first | done | rfl | grind | (rw [Bool.eq_iff_iff]; simp; omega))
  refine ch1 ?_ ?_
  · (simp only [List.contains_cons, List.contains_nil, Bool.or_false, spaced, inX, inC, inO, inH, letter, hangul, idm, edgeC, narrow_not, r0_is]; first | done | rfl | grind | (rw [Bool.eq_iff_iff]; simp; omega))
  refine ch1 ?_ ?_
  · (simp only [List.contains_cons, List.contains_nil, Bool.or_false, spaced, inX, inC, inO, inH, letter, hangul, idm, edgeC, narrow_not, r0_is]; first | done | rfl | grind | (rw [Bool.eq_iff_iff]; simp; omega))
  refine ch2 ?_ ?_
  · (simp only [List.contains_cons, List.contains_nil, Bool.or_false, spaced, inX, inC, inO, inH, letter, hangul, idm, edgeC, narrow_not, r0_is]; first | done | rfl | grind | (rw [Bool.eq_iff_iff]; simp; omega))
  refine ch1 ?_ ?_
  · (simp only [List.contains_cons, List.contains_nil, Bool.or_false, spaced, inX, inC, inO, inH, letter, hangul, idm, edgeC, narrow_not, r0_is]; first | done | rfl | grind | (rw [Bool.eq_iff_iff]; simp; omega))
  refine ch1 ?_ ?_
  · (simp only [List.contains_cons, List.contains_nil, Bool.or_false, spaced, inX, inC, inO, inH, letter, hangul, idm, edgeC, narrow_not, r0_is]; first | done | rfl | grind | (rw [Bool.eq_iff_iff]; simp; omega))
  refine ch1 ?_ ?_
  · (simp only [List.contains_cons, List.contains_nil, Bool.or_false, spaced, inX, inC, inO, inH, letter, hangul, idm, edgeC, narrow_not, r0_is]; first | done | rfl | grind | (rw [Bool.eq_iff_iff]; simp; omega))
  refine ch1 ?_ ?_
  · (simp only [List.contains_cons, List.contains_nil, Bool.or_false, spaced, inX, inC, inO, inH, letter, hangul, idm, edgeC, narrow_not, r0_is]; first | done | rfl | grind | (rw [Bool.eq_iff_iff]; simp; omega))
  refine ch1 ?_ ?_
  · (simp only [List.contains_cons, List.contains_nil, Bool.or_false, spaced, inX, inC, inO, inH, letter, hangul, idm, edgeC, narrow_not, r0_is]; first | done | rfl | grind | (rw [Bool.eq_iff_iff]; simp; omega))
  refine ch2 ?_ ?_
  · (simp only [List.contains_cons, List.contains_nil, Bool.or_false, spaced, inX, inC, inO, inH, letter, hangul, idm, edgeC, narrow_not, r0_is]; first | done | rfl | grind | (rw [Bool.eq_iff_iff]; simp; omega))
  refine ch1 ?_ ?_
  · (simp only [List.contains_cons, List.contains_nil, Bool.or_false, spaced, inX, inC, inO, inH, letter, hangul, idm, edgeC, narrow_not, r0_is]; first | done | rfl | grind | (rw [Bool.eq_iff_iff]; simp; omega))
  refine ch1 ?_ ?_
  · (simp only [List.contains_cons, List.contains_nil, Bool.or_false, spaced, inX, inC, inO, inH, letter, hangul, idm, edgeC, narrow_not, r0_is]; first | done | rfl | grind | (rw [Bool.eq_iff_iff]; simp; omega))
  refine ch2 ?_ ?_
  · (simp only [List.contains_cons, List.contains_nil, Bool.or_false, spaced, inX, inC, inO, inH, letter, hangul, idm, edgeC, narrow_not, r0_is]; first | done | rfl | grind | (rw [Bool.eq_iff_iff]; simp; omega))
  refine ch1 ?_ ?_
  · (simp only [List.contains_cons, List.contains_nil, Bool.or_false, spaced, inX, inC, inO, inH, letter, hangul, idm, edgeC, narrow_not, r0_is]; first | done | rfl | grind | (rw [Bool.eq_iff_iff]; simp; omega))
  refine ch2 ?_ ?_
  · have h := odd32 L; cases hb : oddR L with
    | false => (simp only [List.contains_cons, List.contains_nil, Bool.or_false, spaced, inX, inC, inO, inH, letter, hangul, idm, edgeC, narrow_not, r0_is]; first | done | rfl | grind | (rw [Bool.eq_iff_iff]; simp; omega))
    | true => have h := h hb; rw [h]; (simp only [List.contains_cons, List.contains_nil, Bool.or_false, spaced, inX, inC, inO, inH, letter, hangul, idm, edgeC, narrow_not, r0_is]; first | done | rfl | grind | (rw [Bool.eq_iff_iff]; simp; omega))
  rfl
end Go.Proofs.Ytdbimchiecdkoaa
