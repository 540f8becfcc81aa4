/-
  The rules, by lists.
-/
import Derived.Test.YtdbimchiecdkoaaGreatP3
import Derived.Test.YtdbimchiecdkoaaGreatSC
namespace Go.Proofs.YtdbimchiecdkoaaGreat
open Go Go.RowKit Sg
set_option linter.unusedVariables false
set_option linter.unusedSimpArgs false
section
variable {N : Nat} {l cl : List Int} {o p q n m j k : Int} {nA nu od : Bool} {L R : List U}
theorem pIs_ly (H : Pl N l cl o p q n m j k L R) {i : Int} {X : List U} (h : Lk wdC l cl i X) (S : List Int) (hS : okS S = true) : pIs N l cl o p q n m j k nA nu od i S = some (S.contains (at0 X)) := by
  unfold okS at hS
  rw [Bool.and_eq_true, List.all_eq_true, decide_eq_true_eq] at hS
  have := H.big
  refine pIs_eq H.len h (fun c hc => ?_) (by omega) (by omega)
  have := hS.1 c hc
  rw [Bool.and_eq_true, decide_eq_true_eq, decide_eq_true_eq] at this
  exact this
theorem pDigit_ly (H : Pl N l cl o p q n m j k L R) {i : Int} {X : List U} (h : Lk wdC l cl i X) : pDigit N l cl o p q n m j k nA nu od i = some (([27] : List Int).contains (at0 X)) := by
  unfold pDigit
  rw [pIs_ly H h _ rfl]; rfl
theorem pLetter_ly (H : Pl N l cl o p q n m j k L R) {i : Int} {X : List U} (h : Lk wdC l cl i X) : pLetter N l cl o p q n m j k nA nu od i = some (([0, 28] : List Int).contains (at0 X)) := by
  unfold pLetter
  rw [pIs_ly H h _ rfl]; rfl
theorem pSign_ly (H : Pl N l cl o p q n m j k L R) {i : Int} {X : List U} (h : Lk wdC l cl i X) : pSign N l cl o p q n m j k nA nu od i = some (([26, 25] : List Int).contains (at0 X)) := by
  unfold pSign
  rw [pIs_ly H h _ rfl]; rfl
theorem pPict_ly (H : Pl N l cl o p q n m j k L R) {i : Int} {X : List U} (h : Lk wdC l cl i X) : pPict N l cl o p q n m j k nA nu od i = some (([29, 30, 31] : List Int).contains (at0 X)) := by
  unfold pPict
  rw [pIs_ly H h _ rfl]; rfl
theorem pSyl_ly (H : Pl N l cl o p q n m j k L R) {i : Int} {X : List U} (h : Lk wdC l cl i X) : pSyl N l cl o p q n m j k nA nu od i = some (([33, 34, 35, 36, 37] : List Int).contains (at0 X)) := by
  unfold pSyl
  rw [pIs_ly H h _ rfl]; rfl
theorem pOfWord_ly (H : Pl N l cl o p q n m j k L R) {i : Int} {X : List U} (h : Lk wdC l cl i X) : pOfWord N l cl o p q n m j k nA nu od i = some (([0, 28] : List Int).contains (at0 X) || ([27] : List Int).contains (at0 X)) := by
  unfold pOfWord
  rw [pLetter_ly H h, pDigit_ly H h, Option.bind_some, Option.bind_some]
  cases ([0, 28] : List Int).contains (at0 X) <;> rfl
theorem pJoined_ly (H : Pl N l cl o p q n m j k L R) : pJoined N l cl o p q n m j k nA nu od = some (zw0 L) := by
  obtain ⟨x, h1, h2⟩ := H.zw
  unfold pJoined
  rw [h1, Option.bind_some]
  show some (decide (breakC x = 10)) = _
  rw [← h2]; rfl
theorem qBehindBreak_ly (H : Pl N l cl o p q n m j k L R) : qBehindBreak N l cl o p q n m j k nA nu od = some (2, (([1] : List Int).contains (at0 L))) := by
  unfold qBehindBreak
  simp only [pIs_ly H H.hp [1] rfl, Option.bind_some]
theorem qWithinReturn_ly (H : Pl N l cl o p q n m j k L R) : qWithinReturn N l cl o p q n m j k nA nu od = some (0, (([2] : List Int).contains (at0 L) && ([3] : List Int).contains (at0 R))) := by
  unfold qWithinReturn
  simp only [pIs_ly H H.hp [2] rfl, pIs_ly H H.hq [3] rfl, Option.bind_some]; generalize ([2] : List Int).contains (at0 L) = b0; generalize ([3] : List Int).contains (at0 R) = b1; cases b0 <;> cases b1 <;> rfl
theorem qBehindLine_ly (H : Pl N l cl o p q n m j k L R) : qBehindLine N l cl o p q n m j k nA nu od = some (2, (([2, 3, 4] : List Int).contains (at0 L))) := by
  unfold qBehindLine
  simp only [pIs_ly H H.hp [2, 3, 4] rfl, Option.bind_some]
theorem qAheadOfSpace_ly (H : Pl N l cl o p q n m j k L R) : qAheadOfSpace N l cl o p q n m j k nA nu od = some (0, (([1, 2, 3, 4, 5, 6] : List Int).contains (at0 R))) := by
  unfold qAheadOfSpace
  simp only [pIs_ly H H.hq [1, 2, 3, 4, 5, 6] rfl, Option.bind_some]
theorem qBehindZeroSpace_ly (H : Pl N l cl o p q n m j k L R) : qBehindZeroSpace N l cl o p q n m j k nA nu od = some (1, (([6] : List Int).contains (at0 (spk L)))) := by
  unfold qBehindZeroSpace
  simp only [pIs_ly H H.hk [6] rfl, Option.bind_some]
theorem qBehindJoiner_ly (H : Pl N l cl o p q n m j k L R) : qBehindJoiner N l cl o p q n m j k nA nu od = some (0, (zw0 L)) := by
  unfold qBehindJoiner
  simp only [pJoined_ly H, Option.bind_some]
theorem qBesideWordJoiner_ly (H : Pl N l cl o p q n m j k L R) : qBesideWordJoiner N l cl o p q n m j k nA nu od = some (0, (([7] : List Int).contains (at0 L) || ([7] : List Int).contains (at0 R))) := by
  unfold qBesideWordJoiner
  simp only [pIs_ly H H.hp [7] rfl, pIs_ly H H.hq [7] rfl, Option.bind_some]; generalize ([7] : List Int).contains (at0 L) = b0; generalize ([7] : List Int).contains (at0 R) = b1; cases b0 <;> cases b1 <;> rfl
theorem qBehindGlue_ly (H : Pl N l cl o p q n m j k L R) : qBehindGlue N l cl o p q n m j k nA nu od = some (0, (([8] : List Int).contains (at0 L))) := by
  unfold qBehindGlue
  simp only [pIs_ly H H.hp [8] rfl, Option.bind_some]
theorem qAheadOfGlue_ly (H : Pl N l cl o p q n m j k L R) : qAheadOfGlue N l cl o p q n m j k nA nu od = some (0, (([8] : List Int).contains (at0 R) && (!([5, 11, 14] : List Int).contains (at0 L)))) := by
  unfold qAheadOfGlue
  simp only [pIs_ly H H.hq [8] rfl, pIs_ly H H.hp [5, 11, 14] rfl, Option.bind_some]; generalize ([8] : List Int).contains (at0 R) = b0; generalize ([5, 11, 14] : List Int).contains (at0 L) = b1; cases b0 <;> cases b1 <;> rfl
theorem qAheadOfClosing_ly (H : Pl N l cl o p q n m j k L R) : qAheadOfClosing N l cl o p q n m j k nA nu od = some (0, (([21, 20, 16, 24] : List Int).contains (at0 R))) := by
  unfold qAheadOfClosing
  simp only [pIs_ly H H.hq [21, 20, 16, 24] rfl, Option.bind_some]
theorem qBehindOpening_ly (H : Pl N l cl o p q n m j k L R) : qBehindOpening N l cl o p q n m j k nA nu od = some (0, (([19] : List Int).contains (at0 (spk L)))) := by
  unfold qBehindOpening
  simp only [pIs_ly H H.hk [19] rfl, Option.bind_some]
theorem qBehindOpeningQuote_ly (H : Pl N l cl o p q n m j k L R) : qBehindOpeningQuote N l cl o p q n m j k nA nu od = some (0, (opnL (spk L) && (edgeC (at0 ((spk L).drop 1)) || ([19, 22] : List Int).contains (at0 ((spk L).drop 1))))) := by
  unfold qBehindOpeningQuote
  simp only [pIs_ly H H.hj [19, 22] rfl, pEdge_eq H.len H.hj H.big, pOpens_eq H.len H.hk H.big, Option.bind_some]; generalize ([19, 22] : List Int).contains (at0 ((spk L).drop 1)) = b0; generalize edgeC (at0 ((spk L).drop 1)) = b1; generalize opnL (spk L) = b2; cases b0 <;> cases b1 <;> cases b2 <;> rfl
theorem qAheadOfClosingQuote_ly (H : Pl N l cl o p q n m j k L R) : qAheadOfClosingQuote N l cl o p q n m j k nA nu od = some (0, (clsL R && (edgeC (at0 (R.drop 1)) || ([7, 21, 22, 20, 16, 23, 24] : List Int).contains (at0 (R.drop 1))))) := by
  unfold qAheadOfClosingQuote
  simp only [pIs_ly H H.hn [7, 21, 22, 20, 16, 23, 24] rfl, pEdge_eq H.len H.hn H.big, pCloses_eq H.len H.hq H.big, Option.bind_some]; generalize ([7, 21, 22, 20, 16, 23, 24] : List Int).contains (at0 (R.drop 1)) = b0; generalize edgeC (at0 (R.drop 1)) = b1; generalize clsL R = b2; cases b0 <;> cases b1 <;> cases b2 <;> rfl
theorem qAheadOfDecimals_ly (H : Pl N l cl o p q n m j k L R) : qAheadOfDecimals N l cl o p q n m j k nA nu od = some (1, ((([5] : List Int).contains (at0 L) && ([23] : List Int).contains (at0 R)) && ([27] : List Int).contains (at0 (R.drop 1)))) := by
  unfold qAheadOfDecimals
  simp only [pIs_ly H H.hp [5] rfl, pIs_ly H H.hq [23] rfl, pDigit_ly H H.hn, Option.bind_some]; generalize ([5] : List Int).contains (at0 L) = b0; generalize ([23] : List Int).contains (at0 R) = b1; generalize ([27] : List Int).contains (at0 (R.drop 1)) = b2; cases b0 <;> cases b1 <;> cases b2 <;> rfl
theorem qAheadOfSeparator_ly (H : Pl N l cl o p q n m j k L R) : qAheadOfSeparator N l cl o p q n m j k nA nu od = some (0, (([23] : List Int).contains (at0 R))) := by
  unfold qAheadOfSeparator
  simp only [pIs_ly H H.hq [23] rfl, Option.bind_some]
theorem qAheadOfNonstarter_ly (H : Pl N l cl o p q n m j k L R) : qAheadOfNonstarter N l cl o p q n m j k nA nu od = some (0, (([21, 20] : List Int).contains (at0 (spk L)) && ([18] : List Int).contains (at0 R))) := by
  unfold qAheadOfNonstarter
  simp only [pIs_ly H H.hk [21, 20] rfl, pIs_ly H H.hq [18] rfl, Option.bind_some]; generalize ([21, 20] : List Int).contains (at0 (spk L)) = b0; generalize ([18] : List Int).contains (at0 R) = b1; cases b0 <;> cases b1 <;> rfl
theorem qBetweenDashes_ly (H : Pl N l cl o p q n m j k L R) : qBetweenDashes N l cl o p q n m j k nA nu od = some (0, (([13] : List Int).contains (at0 (spk L)) && ([13] : List Int).contains (at0 R))) := by
  unfold qBetweenDashes
  simp only [pIs_ly H H.hk [13] rfl, pIs_ly H H.hq [13] rfl, Option.bind_some]; generalize ([13] : List Int).contains (at0 (spk L)) = b0; generalize ([13] : List Int).contains (at0 R) = b1; cases b0 <;> cases b1 <;> rfl
theorem qBehindSpace_ly (H : Pl N l cl o p q n m j k L R) : qBehindSpace N l cl o p q n m j k nA nu od = some (1, (([5] : List Int).contains (at0 L))) := by
  unfold qBehindSpace
  simp only [pIs_ly H H.hp [5] rfl, Option.bind_some]
theorem qAheadOfQuote_ly (H : Pl N l cl o p q n m j k L R) : qAheadOfQuote N l cl o p q n m j k nA nu od = some (0, (([22] : List Int).contains (at0 R) && (!opnL R))) := by
  unfold qAheadOfQuote
  simp only [pIs_ly H H.hq [22] rfl, pOpens_eq H.len H.hq H.big, Option.bind_some]; generalize ([22] : List Int).contains (at0 R) = b0; generalize opnL R = b1; cases b0 <;> cases b1 <;> rfl
theorem qBehindQuote_ly (H : Pl N l cl o p q n m j k L R) : qBehindQuote N l cl o p q n m j k nA nu od = some (0, (([22] : List Int).contains (at0 L) && (!clsL L))) := by
  unfold qBehindQuote
  simp only [pIs_ly H H.hp [22] rfl, pCloses_eq H.len H.hp H.big, Option.bind_some]; generalize ([22] : List Int).contains (at0 L) = b0; generalize clsL L = b1; cases b0 <;> cases b1 <;> rfl
theorem qAheadOfNarrowQuote_ly (H : Pl N l cl o p q n m j k L R) : qAheadOfNarrowQuote N l cl o p q n m j k nA nu od = some (0, (([22] : List Int).contains (at0 R) && !(wd0 L && wd0 (R.drop 1)))) := by
  unfold qAheadOfNarrowQuote
  simp only [pIs_ly H H.hq [22] rfl, pWide_eq H.len H.hp, pWide_eq H.len H.hn, Option.bind_some]; generalize ([22] : List Int).contains (at0 R) = b0; generalize wd0 L = b1; generalize wd0 (R.drop 1) = b2; cases b0 <;> cases b1 <;> cases b2 <;> rfl
theorem qBehindNarrowQuote_ly (H : Pl N l cl o p q n m j k L R) : qBehindNarrowQuote N l cl o p q n m j k nA nu od = some (0, (([22] : List Int).contains (at0 L) && !(wd0 R && wd0 (L.drop 1)))) := by
  unfold qBehindNarrowQuote
  simp only [pIs_ly H H.hp [22] rfl, pWide_eq H.len H.hq, pWide_eq H.len H.ho, Option.bind_some]; generalize ([22] : List Int).contains (at0 L) = b0; generalize wd0 R = b1; generalize wd0 (L.drop 1) = b2; cases b0 <;> cases b1 <;> cases b2 <;> rfl
theorem qBesideObject_ly (H : Pl N l cl o p q n m j k L R) : qBesideObject N l cl o p q n m j k nA nu od = some (1, (([15] : List Int).contains (at0 L) || ([15] : List Int).contains (at0 R))) := by
  unfold qBesideObject
  simp only [pIs_ly H H.hp [15] rfl, pIs_ly H H.hq [15] rfl, Option.bind_some]; generalize ([15] : List Int).contains (at0 L) = b0; generalize ([15] : List Int).contains (at0 R) = b1; cases b0 <;> cases b1 <;> rfl
theorem qBehindFirstHyphen_ly (H : Pl N l cl o p q n m j k L R) : qBehindFirstHyphen N l cl o p q n m j k nA nu od = some (0, ((((([14] : List Int).contains (at0 L) || (!L.isEmpty  &&  r0 L == 8208)) && ([0] : List Int).contains (at0 R)) && (edgeC (at0 (L.drop 1)) || ([15] : List Int).contains (at0 (L.drop 1)))))) := by
  unfold qBehindFirstHyphen
  simp only [pIs_ly H H.hp [14] rfl, pIs_ly H H.hq [0] rfl, pIs_ly H H.ho [15] rfl, pEdge_eq H.len H.ho H.big, pBegins_eq H.len H.hp 8208, Option.bind_some]; generalize ([14] : List Int).contains (at0 L) = b0; generalize ([0] : List Int).contains (at0 R) = b1; generalize ([15] : List Int).contains (at0 (L.drop 1)) = b2; generalize edgeC (at0 (L.drop 1)) = b3; generalize (!L.isEmpty && r0 L == 8208) = b4; cases b0 <;> cases b1 <;> cases b2 <;> cases b3 <;> cases b4 <;> rfl
theorem qBesideHyphen_ly (H : Pl N l cl o p q n m j k L R) : qBesideHyphen N l cl o p q n m j k nA nu od = some (0, (([11, 14, 18] : List Int).contains (at0 R) || ([12] : List Int).contains (at0 L))) := by
  unfold qBesideHyphen
  simp only [pIs_ly H H.hq [11, 14, 18] rfl, pIs_ly H H.hp [12] rfl, Option.bind_some]; generalize ([11, 14, 18] : List Int).contains (at0 R) = b0; generalize ([12] : List Int).contains (at0 L) = b1; cases b0 <;> cases b1 <;> rfl
theorem qBehindHebrewHyphen_ly (H : Pl N l cl o p q n m j k L R) : qBehindHebrewHyphen N l cl o p q n m j k nA nu od = some (0, ((([28] : List Int).contains (at0 (L.drop 1)) && (([14] : List Int).contains (at0 L) || (([11] : List Int).contains (at0 L) && (!wd0 L)))) && (!([28] : List Int).contains (at0 R)))) := by
  unfold qBehindHebrewHyphen
  simp only [pIs_ly H H.ho [28] rfl, pIs_ly H H.hp [14] rfl, pIs_ly H H.hp [11] rfl, pIs_ly H H.hq [28] rfl, pWide_eq H.len H.hp, Option.bind_some]; generalize ([28] : List Int).contains (at0 (L.drop 1)) = b0; generalize ([14] : List Int).contains (at0 L) = b1; generalize ([11] : List Int).contains (at0 L) = b2; generalize ([28] : List Int).contains (at0 R) = b3; generalize wd0 L = b4; cases b0 <;> cases b1 <;> cases b2 <;> cases b3 <;> cases b4 <;> rfl
theorem qSlashHebrew_ly (H : Pl N l cl o p q n m j k L R) : qSlashHebrew N l cl o p q n m j k nA nu od = some (0, (([24] : List Int).contains (at0 L) && ([28] : List Int).contains (at0 R))) := by
  unfold qSlashHebrew
  simp only [pIs_ly H H.hp [24] rfl, pIs_ly H H.hq [28] rfl, Option.bind_some]; generalize ([24] : List Int).contains (at0 L) = b0; generalize ([28] : List Int).contains (at0 R) = b1; cases b0 <;> cases b1 <;> rfl
theorem qAheadOfEllipsis_ly (H : Pl N l cl o p q n m j k L R) : qAheadOfEllipsis N l cl o p q n m j k nA nu od = some (0, (([17] : List Int).contains (at0 R))) := by
  unfold qAheadOfEllipsis
  simp only [pIs_ly H H.hq [17] rfl, Option.bind_some]
theorem qLetterDigit_ly (H : Pl N l cl o p q n m j k L R) : qLetterDigit N l cl o p q n m j k nA nu od = some (0, ((([0, 28] : List Int).contains (at0 L) && ([27] : List Int).contains (at0 R)) || (([27] : List Int).contains (at0 L) && ([0, 28] : List Int).contains (at0 R)))) := by
  unfold qLetterDigit
  simp only [pDigit_ly H H.hq, pDigit_ly H H.hp, pLetter_ly H H.hp, pLetter_ly H H.hq, Option.bind_some]; generalize ([27] : List Int).contains (at0 R) = b0; generalize ([27] : List Int).contains (at0 L) = b1; generalize ([0, 28] : List Int).contains (at0 L) = b2; generalize ([0, 28] : List Int).contains (at0 R) = b3; cases b0 <;> cases b1 <;> cases b2 <;> cases b3 <;> rfl
theorem qSignIdeograph_ly (H : Pl N l cl o p q n m j k L R) : qSignIdeograph N l cl o p q n m j k nA nu od = some (0, ((([26] : List Int).contains (at0 L) && ([29, 30, 31] : List Int).contains (at0 R)) || (([29, 30, 31] : List Int).contains (at0 L) && ([25] : List Int).contains (at0 R)))) := by
  unfold qSignIdeograph
  simp only [pIs_ly H H.hp [26] rfl, pIs_ly H H.hq [25] rfl, pPict_ly H H.hq, pPict_ly H H.hp, Option.bind_some]; generalize ([26] : List Int).contains (at0 L) = b0; generalize ([25] : List Int).contains (at0 R) = b1; generalize ([29, 30, 31] : List Int).contains (at0 R) = b2; generalize ([29, 30, 31] : List Int).contains (at0 L) = b3; cases b0 <;> cases b1 <;> cases b2 <;> cases b3 <;> rfl
theorem qSignLetter_ly (H : Pl N l cl o p q n m j k L R) : qSignLetter N l cl o p q n m j k nA nu od = some (0, ((([26, 25] : List Int).contains (at0 L) && ([0, 28] : List Int).contains (at0 R)) || (([0, 28] : List Int).contains (at0 L) && ([26, 25] : List Int).contains (at0 R)))) := by
  unfold qSignLetter
  simp only [pLetter_ly H H.hq, pLetter_ly H H.hp, pSign_ly H H.hp, pSign_ly H H.hq, Option.bind_some]; generalize ([0, 28] : List Int).contains (at0 R) = b0; generalize ([0, 28] : List Int).contains (at0 L) = b1; generalize ([26, 25] : List Int).contains (at0 L) = b2; generalize ([26, 25] : List Int).contains (at0 R) = b3; cases b0 <;> cases b1 <;> cases b2 <;> cases b3 <;> rfl
theorem qNumberSign_ly (H : Pl N l cl o p q n m j k L R) : qNumberSign N l cl o p q n m j k nA nu od = some (0, (([26, 25] : List Int).contains (at0 R) && (nu || (nA && ([21, 20] : List Int).contains (at0 L))))) := by
  unfold qNumberSign
  cases nA <;> cases nu <;> (try simp only [pIs_ly H H.hp [21, 20] rfl, pSign_ly H H.hq, Option.bind_some]) <;> (try generalize ([21, 20] : List Int).contains (at0 L) = b0) <;> (try generalize ([26, 25] : List Int).contains (at0 R) = b1) <;> (try cases b0) <;> (try cases b1) <;> rfl
theorem qSignNumber_ly (H : Pl N l cl o p q n m j k L R) : qSignNumber N l cl o p q n m j k nA nu od = some (0, (([26, 25] : List Int).contains (at0 L) && (([27] : List Int).contains (at0 R) || (([19] : List Int).contains (at0 R) && (([27] : List Int).contains (at0 (R.drop 1)) || (([23] : List Int).contains (at0 (R.drop 1)) && ([27] : List Int).contains (at0 (R.drop 2)))))))) := by
  unfold qSignNumber
  simp only [pIs_ly H H.hq [19] rfl, pIs_ly H H.hn [23] rfl, pDigit_ly H H.hq, pDigit_ly H H.hn, pDigit_ly H H.hm, pSign_ly H H.hp, Option.bind_some]; generalize ([19] : List Int).contains (at0 R) = b0; generalize ([23] : List Int).contains (at0 (R.drop 1)) = b1; generalize ([27] : List Int).contains (at0 R) = b2; generalize ([27] : List Int).contains (at0 (R.drop 1)) = b3; generalize ([27] : List Int).contains (at0 (R.drop 2)) = b4; generalize ([26, 25] : List Int).contains (at0 L) = b5; cases b0 <;> cases b1 <;> cases b2 <;> cases b3 <;> cases b4 <;> cases b5 <;> rfl
theorem qHyphenDigit_ly (H : Pl N l cl o p q n m j k L R) : qHyphenDigit N l cl o p q n m j k nA nu od = some (0, (([14, 23] : List Int).contains (at0 L) && ([27] : List Int).contains (at0 R))) := by
  unfold qHyphenDigit
  simp only [pIs_ly H H.hp [14, 23] rfl, pDigit_ly H H.hq, Option.bind_some]; generalize ([14, 23] : List Int).contains (at0 L) = b0; generalize ([27] : List Int).contains (at0 R) = b1; cases b0 <;> cases b1 <;> rfl
theorem qNumberDigit_ly (H : Pl N l cl o p q n m j k L R) : qNumberDigit N l cl o p q n m j k nA nu od = some (0, (nu && ([27] : List Int).contains (at0 R))) := by
  unfold qNumberDigit
  cases nu <;> (try simp only [pDigit_ly H H.hq, Option.bind_some]) <;> (try generalize ([27] : List Int).contains (at0 R) = b0) <;> (try generalize ([27] : List Int).contains (at0 R) = b1) <;> (try cases b0) <;> (try cases b1) <;> rfl
theorem qWithinSyllable_ly (H : Pl N l cl o p q n m j k L R) : qWithinSyllable N l cl o p q n m j k nA nu od = some (0, (((([33] : List Int).contains (at0 L) && ([33, 34, 36, 37] : List Int).contains (at0 R)) || (([34, 36] : List Int).contains (at0 L) && ([34, 35] : List Int).contains (at0 R))) || (([35, 37] : List Int).contains (at0 L) && ([35] : List Int).contains (at0 R)))) := by
  unfold qWithinSyllable
  simp only [pIs_ly H H.hp [33] rfl, pIs_ly H H.hq [33, 34, 36, 37] rfl, pIs_ly H H.hp [34, 36] rfl, pIs_ly H H.hq [34, 35] rfl, pIs_ly H H.hp [35, 37] rfl, pIs_ly H H.hq [35] rfl, Option.bind_some]; generalize ([33] : List Int).contains (at0 L) = b0; generalize ([33, 34, 36, 37] : List Int).contains (at0 R) = b1; generalize ([34, 36] : List Int).contains (at0 L) = b2; generalize ([34, 35] : List Int).contains (at0 R) = b3; generalize ([35, 37] : List Int).contains (at0 L) = b4; generalize ([35] : List Int).contains (at0 R) = b5; cases b0 <;> cases b1 <;> cases b2 <;> cases b3 <;> cases b4 <;> cases b5 <;> rfl
theorem qSignSyllable_ly (H : Pl N l cl o p q n m j k L R) : qSignSyllable N l cl o p q n m j k nA nu od = some (0, ((([33, 34, 35, 36, 37] : List Int).contains (at0 L) && ([25] : List Int).contains (at0 R)) || (([26] : List Int).contains (at0 L) && ([33, 34, 35, 36, 37] : List Int).contains (at0 R)))) := by
  unfold qSignSyllable
  simp only [pIs_ly H H.hq [25] rfl, pIs_ly H H.hp [26] rfl, pSyl_ly H H.hp, pSyl_ly H H.hq, Option.bind_some]; generalize ([25] : List Int).contains (at0 R) = b0; generalize ([26] : List Int).contains (at0 L) = b1; generalize ([33, 34, 35, 36, 37] : List Int).contains (at0 L) = b2; generalize ([33, 34, 35, 36, 37] : List Int).contains (at0 R) = b3; cases b0 <;> cases b1 <;> cases b2 <;> cases b3 <;> rfl
theorem qBetweenLetters_ly (H : Pl N l cl o p q n m j k L R) : qBetweenLetters N l cl o p q n m j k nA nu od = some (0, (([0, 28] : List Int).contains (at0 L) && ([0, 28] : List Int).contains (at0 R))) := by
  unfold qBetweenLetters
  simp only [pLetter_ly H H.hp, pLetter_ly H H.hq, Option.bind_some]; generalize ([0, 28] : List Int).contains (at0 L) = b0; generalize ([0, 28] : List Int).contains (at0 R) = b1; cases b0 <;> cases b1 <;> rfl
theorem qSeparatorLetter_ly (H : Pl N l cl o p q n m j k L R) : qSeparatorLetter N l cl o p q n m j k nA nu od = some (0, (([23] : List Int).contains (at0 L) && ([0, 28] : List Int).contains (at0 R))) := by
  unfold qSeparatorLetter
  simp only [pIs_ly H H.hp [23] rfl, pLetter_ly H H.hq, Option.bind_some]; generalize ([23] : List Int).contains (at0 L) = b0; generalize ([0, 28] : List Int).contains (at0 R) = b1; cases b0 <;> cases b1 <;> rfl
theorem qBesideBracket_ly (H : Pl N l cl o p q n m j k L R) : qBesideBracket N l cl o p q n m j k nA nu od = some (0, ((((([0, 28] : List Int).contains (at0 L)  ||  ([27] : List Int).contains (at0 L)) && ([19] : List Int).contains (at0 R)) && (!wd0 R)) || ((([20] : List Int).contains (at0 L) && (!wd0 L)) && (([0, 28] : List Int).contains (at0 R)  ||  ([27] : List Int).contains (at0 R))))) := by
  unfold qBesideBracket
  simp only [pIs_ly H H.hq [19] rfl, pIs_ly H H.hp [20] rfl, pOfWord_ly H H.hp, pOfWord_ly H H.hq, pWide_eq H.len H.hq, pWide_eq H.len H.hp, Option.bind_some]; generalize ([19] : List Int).contains (at0 R) = b0; generalize ([20] : List Int).contains (at0 L) = b1; generalize ([0, 28] : List Int).contains (at0 L) = b2; generalize ([27] : List Int).contains (at0 L) = b3; generalize ([0, 28] : List Int).contains (at0 R) = b4; generalize ([27] : List Int).contains (at0 R) = b5; generalize wd0 R = b6; generalize wd0 L = b7; cases b0 <;> cases b1 <;> cases b2 <;> cases b3 <;> cases b4 <;> cases b5 <;> cases b6 <;> cases b7 <;> rfl
theorem qWithinFlag_ly (H : Pl N l cl o p q n m j k L R) : qWithinFlag N l cl o p q n m j k nA nu od = some (0, (od && ([32] : List Int).contains (at0 R))) := by
  unfold qWithinFlag
  cases od <;> (try simp only [pIs_ly H H.hq [32] rfl, Option.bind_some]) <;> (try generalize ([32] : List Int).contains (at0 R) = b0) <;> (try generalize ([32] : List Int).contains (at0 R) = b1) <;> (try cases b0) <;> (try cases b1) <;> rfl
theorem qWithinPicture_ly (H : Pl N l cl o p q n m j k L R) : qWithinPicture N l cl o p q n m j k nA nu od = some (0, (([30] : List Int).contains (at0 L) && ([31] : List Int).contains (at0 R))) := by
  unfold qWithinPicture
  simp only [pIs_ly H H.hp [30] rfl, pIs_ly H H.hq [31] rfl, Option.bind_some]; generalize ([30] : List Int).contains (at0 L) = b0; generalize ([31] : List Int).contains (at0 R) = b1; cases b0 <;> cases b1 <;> rfl
theorem qElsewhere_ly : qElsewhere N l cl o p q n m j k nA nu od = some (1, true) := rfl
end
end Go.Proofs.YtdbimchiecdkoaaGreat
