/-
  The rules gone through.
-/
import Derived.Test.YtdbimchiecdkoaaGreatSD
import Derived.Test.YtdbimchiecdkoaaGreatSC
namespace Go.Proofs.YtdbimchiecdkoaaGreat
open Go Go.RowKit Sg
set_option linter.unusedVariables false
set_option linter.unusedSimpArgs false
section
variable {N : Nat} {l cl : List Int} {o p q n m j k : Int} {L R : List U}
theorem told_hit (N : Nat) (l cl : List Int) (o p q n m j k : Int) (nA nu od : Bool) (f : Nat) (x i : Int) : pTold_L1 N l cl o p q n m j k nA nu od (f + 1) x true i = some x := rfl
theorem told_step42 (f : Nat) (nA nu od : Bool) (x : Int) : pTold_L1 N l cl o p q n m j k nA nu od (f + 1) x false 42 = ((qElsewhere N l cl o p q n m j k nA nu od).bind fun (x, b) => pTold_L1 N l cl o p q n m j k nA nu od f x b 43) := rfl
theorem told_at42 (H : Pl N l cl o p q n m j k L R) (f : Nat) (nA nu od : Bool) (x : Int) : pTold_L1 N l cl o p q n m j k nA nu od (f + 2) x false 42 = some (rest42 nA nu od L R) := by
  rw [show f + 2 = f + 1 + 1 from rfl, told_step42, qElsewhere_ly, Option.bind_some]
  unfold rest42
  show pTold_L1 N l cl o p q n m j k nA nu od (f + 0 + 1) 1 (true) 43 = _
  rw [told_hit]; rfl
theorem told_step41 (f : Nat) (nA nu od : Bool) (x : Int) : pTold_L1 N l cl o p q n m j k nA nu od (f + 1) x false 41 = ((qWithinPicture N l cl o p q n m j k nA nu od).bind fun (x, b) => pTold_L1 N l cl o p q n m j k nA nu od f x b 42) := rfl
theorem told_at41 (H : Pl N l cl o p q n m j k L R) (f : Nat) (nA nu od : Bool) (x : Int) : pTold_L1 N l cl o p q n m j k nA nu od (f + 3) x false 41 = some (rest41 nA nu od L R) := by
  rw [show f + 3 = f + 2 + 1 from rfl, told_step41, qWithinPicture_ly H, Option.bind_some]
  unfold rest41
  show pTold_L1 N l cl o p q n m j k nA nu od (f + 1 + 1) 0 (([30] : List Int).contains (at0 L) && ([31] : List Int).contains (at0 R)) 42 = _
  cases (([30] : List Int).contains (at0 L) && ([31] : List Int).contains (at0 R))
  · rw [show f + 1 + 1 = f + 2 from rfl, told_at42 H]; rfl
  · rw [told_hit]; rfl
theorem told_step40 (f : Nat) (nA nu od : Bool) (x : Int) : pTold_L1 N l cl o p q n m j k nA nu od (f + 1) x false 40 = ((qWithinFlag N l cl o p q n m j k nA nu od).bind fun (x, b) => pTold_L1 N l cl o p q n m j k nA nu od f x b 41) := rfl
theorem told_at40 (H : Pl N l cl o p q n m j k L R) (f : Nat) (nA nu od : Bool) (x : Int) : pTold_L1 N l cl o p q n m j k nA nu od (f + 4) x false 40 = some (rest40 nA nu od L R) := by
  rw [show f + 4 = f + 3 + 1 from rfl, told_step40, qWithinFlag_ly H, Option.bind_some]
  unfold rest40
  show pTold_L1 N l cl o p q n m j k nA nu od (f + 2 + 1) 0 (od && ([32] : List Int).contains (at0 R)) 41 = _
  cases (od && ([32] : List Int).contains (at0 R))
  · rw [show f + 2 + 1 = f + 3 from rfl, told_at41 H]; rfl
  · rw [told_hit]; rfl
theorem told_step39 (f : Nat) (nA nu od : Bool) (x : Int) : pTold_L1 N l cl o p q n m j k nA nu od (f + 1) x false 39 = ((qBesideBracket N l cl o p q n m j k nA nu od).bind fun (x, b) => pTold_L1 N l cl o p q n m j k nA nu od f x b 40) := rfl
theorem told_at39 (H : Pl N l cl o p q n m j k L R) (f : Nat) (nA nu od : Bool) (x : Int) : pTold_L1 N l cl o p q n m j k nA nu od (f + 5) x false 39 = some (rest39 nA nu od L R) := by
  rw [show f + 5 = f + 4 + 1 from rfl, told_step39, qBesideBracket_ly H, Option.bind_some]
  unfold rest39
  show pTold_L1 N l cl o p q n m j k nA nu od (f + 3 + 1) 0 ((((([0, 28] : List Int).contains (at0 L)  ||  ([27] : List Int).contains (at0 L)) && ([19] : List Int).contains (at0 R)) && (!wd0 R)) || ((([20] : List Int).contains (at0 L) && (!wd0 L)) && (([0, 28] : List Int).contains (at0 R)  ||  ([27] : List Int).contains (at0 R)))) 40 = _
  cases ((((([0, 28] : List Int).contains (at0 L)  ||  ([27] : List Int).contains (at0 L)) && ([19] : List Int).contains (at0 R)) && (!wd0 R)) || ((([20] : List Int).contains (at0 L) && (!wd0 L)) && (([0, 28] : List Int).contains (at0 R)  ||  ([27] : List Int).contains (at0 R))))
  · rw [show f + 3 + 1 = f + 4 from rfl, told_at40 H]; rfl
  · rw [told_hit]; rfl
theorem told_step38 (f : Nat) (nA nu od : Bool) (x : Int) : pTold_L1 N l cl o p q n m j k nA nu od (f + 1) x false 38 = ((qSeparatorLetter N l cl o p q n m j k nA nu od).bind fun (x, b) => pTold_L1 N l cl o p q n m j k nA nu od f x b 39) := rfl
theorem told_at38 (H : Pl N l cl o p q n m j k L R) (f : Nat) (nA nu od : Bool) (x : Int) : pTold_L1 N l cl o p q n m j k nA nu od (f + 6) x false 38 = some (rest38 nA nu od L R) := by
  rw [show f + 6 = f + 5 + 1 from rfl, told_step38, qSeparatorLetter_ly H, Option.bind_some]
  unfold rest38
  show pTold_L1 N l cl o p q n m j k nA nu od (f + 4 + 1) 0 (([23] : List Int).contains (at0 L) && ([0, 28] : List Int).contains (at0 R)) 39 = _
  cases (([23] : List Int).contains (at0 L) && ([0, 28] : List Int).contains (at0 R))
  · rw [show f + 4 + 1 = f + 5 from rfl, told_at39 H]; rfl
  · rw [told_hit]; rfl
theorem told_step37 (f : Nat) (nA nu od : Bool) (x : Int) : pTold_L1 N l cl o p q n m j k nA nu od (f + 1) x false 37 = ((qBetweenLetters N l cl o p q n m j k nA nu od).bind fun (x, b) => pTold_L1 N l cl o p q n m j k nA nu od f x b 38) := rfl
theorem told_at37 (H : Pl N l cl o p q n m j k L R) (f : Nat) (nA nu od : Bool) (x : Int) : pTold_L1 N l cl o p q n m j k nA nu od (f + 7) x false 37 = some (rest37 nA nu od L R) := by
  rw [show f + 7 = f + 6 + 1 from rfl, told_step37, qBetweenLetters_ly H, Option.bind_some]
  unfold rest37
  show pTold_L1 N l cl o p q n m j k nA nu od (f + 5 + 1) 0 (([0, 28] : List Int).contains (at0 L) && ([0, 28] : List Int).contains (at0 R)) 38 = _
  cases (([0, 28] : List Int).contains (at0 L) && ([0, 28] : List Int).contains (at0 R))
  · rw [show f + 5 + 1 = f + 6 from rfl, told_at38 H]; rfl
  · rw [told_hit]; rfl
theorem told_step36 (f : Nat) (nA nu od : Bool) (x : Int) : pTold_L1 N l cl o p q n m j k nA nu od (f + 1) x false 36 = ((qSignSyllable N l cl o p q n m j k nA nu od).bind fun (x, b) => pTold_L1 N l cl o p q n m j k nA nu od f x b 37) := rfl
theorem told_at36 (H : Pl N l cl o p q n m j k L R) (f : Nat) (nA nu od : Bool) (x : Int) : pTold_L1 N l cl o p q n m j k nA nu od (f + 8) x false 36 = some (rest36 nA nu od L R) := by
  rw [show f + 8 = f + 7 + 1 from rfl, told_step36, qSignSyllable_ly H, Option.bind_some]
  unfold rest36
  show pTold_L1 N l cl o p q n m j k nA nu od (f + 6 + 1) 0 ((([33, 34, 35, 36, 37] : List Int).contains (at0 L) && ([25] : List Int).contains (at0 R)) || (([26] : List Int).contains (at0 L) && ([33, 34, 35, 36, 37] : List Int).contains (at0 R))) 37 = _
  cases ((([33, 34, 35, 36, 37] : List Int).contains (at0 L) && ([25] : List Int).contains (at0 R)) || (([26] : List Int).contains (at0 L) && ([33, 34, 35, 36, 37] : List Int).contains (at0 R)))
  · rw [show f + 6 + 1 = f + 7 from rfl, told_at37 H]; rfl
  · rw [told_hit]; rfl
theorem told_step35 (f : Nat) (nA nu od : Bool) (x : Int) : pTold_L1 N l cl o p q n m j k nA nu od (f + 1) x false 35 = ((qWithinSyllable N l cl o p q n m j k nA nu od).bind fun (x, b) => pTold_L1 N l cl o p q n m j k nA nu od f x b 36) := rfl
theorem told_at35 (H : Pl N l cl o p q n m j k L R) (f : Nat) (nA nu od : Bool) (x : Int) : pTold_L1 N l cl o p q n m j k nA nu od (f + 9) x false 35 = some (rest35 nA nu od L R) := by
  rw [show f + 9 = f + 8 + 1 from rfl, told_step35, qWithinSyllable_ly H, Option.bind_some]
  unfold rest35
  show pTold_L1 N l cl o p q n m j k nA nu od (f + 7 + 1) 0 (((([33] : List Int).contains (at0 L) && ([33, 34, 36, 37] : List Int).contains (at0 R)) || (([34, 36] : List Int).contains (at0 L) && ([34, 35] : List Int).contains (at0 R))) || (([35, 37] : List Int).contains (at0 L) && ([35] : List Int).contains (at0 R))) 36 = _
  cases (((([33] : List Int).contains (at0 L) && ([33, 34, 36, 37] : List Int).contains (at0 R)) || (([34, 36] : List Int).contains (at0 L) && ([34, 35] : List Int).contains (at0 R))) || (([35, 37] : List Int).contains (at0 L) && ([35] : List Int).contains (at0 R)))
  · rw [show f + 7 + 1 = f + 8 from rfl, told_at36 H]; rfl
  · rw [told_hit]; rfl
theorem told_step34 (f : Nat) (nA nu od : Bool) (x : Int) : pTold_L1 N l cl o p q n m j k nA nu od (f + 1) x false 34 = ((qNumberDigit N l cl o p q n m j k nA nu od).bind fun (x, b) => pTold_L1 N l cl o p q n m j k nA nu od f x b 35) := rfl
theorem told_at34 (H : Pl N l cl o p q n m j k L R) (f : Nat) (nA nu od : Bool) (x : Int) : pTold_L1 N l cl o p q n m j k nA nu od (f + 10) x false 34 = some (rest34 nA nu od L R) := by
  rw [show f + 10 = f + 9 + 1 from rfl, told_step34, qNumberDigit_ly H, Option.bind_some]
  unfold rest34
  show pTold_L1 N l cl o p q n m j k nA nu od (f + 8 + 1) 0 (nu && ([27] : List Int).contains (at0 R)) 35 = _
  cases (nu && ([27] : List Int).contains (at0 R))
  · rw [show f + 8 + 1 = f + 9 from rfl, told_at35 H]; rfl
  · rw [told_hit]; rfl
theorem told_step33 (f : Nat) (nA nu od : Bool) (x : Int) : pTold_L1 N l cl o p q n m j k nA nu od (f + 1) x false 33 = ((qHyphenDigit N l cl o p q n m j k nA nu od).bind fun (x, b) => pTold_L1 N l cl o p q n m j k nA nu od f x b 34) := rfl
theorem told_at33 (H : Pl N l cl o p q n m j k L R) (f : Nat) (nA nu od : Bool) (x : Int) : pTold_L1 N l cl o p q n m j k nA nu od (f + 11) x false 33 = some (rest33 nA nu od L R) := by
  rw [show f + 11 = f + 10 + 1 from rfl, told_step33, qHyphenDigit_ly H, Option.bind_some]
  unfold rest33
  show pTold_L1 N l cl o p q n m j k nA nu od (f + 9 + 1) 0 (([14, 23] : List Int).contains (at0 L) && ([27] : List Int).contains (at0 R)) 34 = _
  cases (([14, 23] : List Int).contains (at0 L) && ([27] : List Int).contains (at0 R))
  · rw [show f + 9 + 1 = f + 10 from rfl, told_at34 H]; rfl
  · rw [told_hit]; rfl
theorem told_step32 (f : Nat) (nA nu od : Bool) (x : Int) : pTold_L1 N l cl o p q n m j k nA nu od (f + 1) x false 32 = ((qSignNumber N l cl o p q n m j k nA nu od).bind fun (x, b) => pTold_L1 N l cl o p q n m j k nA nu od f x b 33) := rfl
theorem told_at32 (H : Pl N l cl o p q n m j k L R) (f : Nat) (nA nu od : Bool) (x : Int) : pTold_L1 N l cl o p q n m j k nA nu od (f + 12) x false 32 = some (rest32 nA nu od L R) := by
  rw [show f + 12 = f + 11 + 1 from rfl, told_step32, qSignNumber_ly H, Option.bind_some]
  unfold rest32
  show pTold_L1 N l cl o p q n m j k nA nu od (f + 10 + 1) 0 (([26, 25] : List Int).contains (at0 L) && (([27] : List Int).contains (at0 R) || (([19] : List Int).contains (at0 R) && (([27] : List Int).contains (at0 (R.drop 1)) || (([23] : List Int).contains (at0 (R.drop 1)) && ([27] : List Int).contains (at0 (R.drop 2))))))) 33 = _
  cases (([26, 25] : List Int).contains (at0 L) && (([27] : List Int).contains (at0 R) || (([19] : List Int).contains (at0 R) && (([27] : List Int).contains (at0 (R.drop 1)) || (([23] : List Int).contains (at0 (R.drop 1)) && ([27] : List Int).contains (at0 (R.drop 2)))))))
  · rw [show f + 10 + 1 = f + 11 from rfl, told_at33 H]; rfl
  · rw [told_hit]; rfl
theorem told_step31 (f : Nat) (nA nu od : Bool) (x : Int) : pTold_L1 N l cl o p q n m j k nA nu od (f + 1) x false 31 = ((qNumberSign N l cl o p q n m j k nA nu od).bind fun (x, b) => pTold_L1 N l cl o p q n m j k nA nu od f x b 32) := rfl
theorem told_at31 (H : Pl N l cl o p q n m j k L R) (f : Nat) (nA nu od : Bool) (x : Int) : pTold_L1 N l cl o p q n m j k nA nu od (f + 13) x false 31 = some (rest31 nA nu od L R) := by
  rw [show f + 13 = f + 12 + 1 from rfl, told_step31, qNumberSign_ly H, Option.bind_some]
  unfold rest31
  show pTold_L1 N l cl o p q n m j k nA nu od (f + 11 + 1) 0 (([26, 25] : List Int).contains (at0 R) && (nu || (nA && ([21, 20] : List Int).contains (at0 L)))) 32 = _
  cases (([26, 25] : List Int).contains (at0 R) && (nu || (nA && ([21, 20] : List Int).contains (at0 L))))
  · rw [show f + 11 + 1 = f + 12 from rfl, told_at32 H]; rfl
  · rw [told_hit]; rfl
theorem told_step30 (f : Nat) (nA nu od : Bool) (x : Int) : pTold_L1 N l cl o p q n m j k nA nu od (f + 1) x false 30 = ((qSignLetter N l cl o p q n m j k nA nu od).bind fun (x, b) => pTold_L1 N l cl o p q n m j k nA nu od f x b 31) := rfl
theorem told_at30 (H : Pl N l cl o p q n m j k L R) (f : Nat) (nA nu od : Bool) (x : Int) : pTold_L1 N l cl o p q n m j k nA nu od (f + 14) x false 30 = some (rest30 nA nu od L R) := by
  rw [show f + 14 = f + 13 + 1 from rfl, told_step30, qSignLetter_ly H, Option.bind_some]
  unfold rest30
  show pTold_L1 N l cl o p q n m j k nA nu od (f + 12 + 1) 0 ((([26, 25] : List Int).contains (at0 L) && ([0, 28] : List Int).contains (at0 R)) || (([0, 28] : List Int).contains (at0 L) && ([26, 25] : List Int).contains (at0 R))) 31 = _
  cases ((([26, 25] : List Int).contains (at0 L) && ([0, 28] : List Int).contains (at0 R)) || (([0, 28] : List Int).contains (at0 L) && ([26, 25] : List Int).contains (at0 R)))
  · rw [show f + 12 + 1 = f + 13 from rfl, told_at31 H]; rfl
  · rw [told_hit]; rfl
theorem told_step29 (f : Nat) (nA nu od : Bool) (x : Int) : pTold_L1 N l cl o p q n m j k nA nu od (f + 1) x false 29 = ((qSignIdeograph N l cl o p q n m j k nA nu od).bind fun (x, b) => pTold_L1 N l cl o p q n m j k nA nu od f x b 30) := rfl
theorem told_at29 (H : Pl N l cl o p q n m j k L R) (f : Nat) (nA nu od : Bool) (x : Int) : pTold_L1 N l cl o p q n m j k nA nu od (f + 15) x false 29 = some (rest29 nA nu od L R) := by
  rw [show f + 15 = f + 14 + 1 from rfl, told_step29, qSignIdeograph_ly H, Option.bind_some]
  unfold rest29
  show pTold_L1 N l cl o p q n m j k nA nu od (f + 13 + 1) 0 ((([26] : List Int).contains (at0 L) && ([29, 30, 31] : List Int).contains (at0 R)) || (([29, 30, 31] : List Int).contains (at0 L) && ([25] : List Int).contains (at0 R))) 30 = _
  cases ((([26] : List Int).contains (at0 L) && ([29, 30, 31] : List Int).contains (at0 R)) || (([29, 30, 31] : List Int).contains (at0 L) && ([25] : List Int).contains (at0 R)))
  · rw [show f + 13 + 1 = f + 14 from rfl, told_at30 H]; rfl
  · rw [told_hit]; rfl
theorem told_step28 (f : Nat) (nA nu od : Bool) (x : Int) : pTold_L1 N l cl o p q n m j k nA nu od (f + 1) x false 28 = ((qLetterDigit N l cl o p q n m j k nA nu od).bind fun (x, b) => pTold_L1 N l cl o p q n m j k nA nu od f x b 29) := rfl
theorem told_at28 (H : Pl N l cl o p q n m j k L R) (f : Nat) (nA nu od : Bool) (x : Int) : pTold_L1 N l cl o p q n m j k nA nu od (f + 16) x false 28 = some (rest28 nA nu od L R) := by
  rw [show f + 16 = f + 15 + 1 from rfl, told_step28, qLetterDigit_ly H, Option.bind_some]
  unfold rest28
  show pTold_L1 N l cl o p q n m j k nA nu od (f + 14 + 1) 0 ((([0, 28] : List Int).contains (at0 L) && ([27] : List Int).contains (at0 R)) || (([27] : List Int).contains (at0 L) && ([0, 28] : List Int).contains (at0 R))) 29 = _
  cases ((([0, 28] : List Int).contains (at0 L) && ([27] : List Int).contains (at0 R)) || (([27] : List Int).contains (at0 L) && ([0, 28] : List Int).contains (at0 R)))
  · rw [show f + 14 + 1 = f + 15 from rfl, told_at29 H]; rfl
  · rw [told_hit]; rfl
theorem told_step27 (f : Nat) (nA nu od : Bool) (x : Int) : pTold_L1 N l cl o p q n m j k nA nu od (f + 1) x false 27 = ((qAheadOfEllipsis N l cl o p q n m j k nA nu od).bind fun (x, b) => pTold_L1 N l cl o p q n m j k nA nu od f x b 28) := rfl
theorem told_at27 (H : Pl N l cl o p q n m j k L R) (f : Nat) (nA nu od : Bool) (x : Int) : pTold_L1 N l cl o p q n m j k nA nu od (f + 17) x false 27 = some (rest27 nA nu od L R) := by
  rw [show f + 17 = f + 16 + 1 from rfl, told_step27, qAheadOfEllipsis_ly H, Option.bind_some]
  unfold rest27
  show pTold_L1 N l cl o p q n m j k nA nu od (f + 15 + 1) 0 (([17] : List Int).contains (at0 R)) 28 = _
  cases (([17] : List Int).contains (at0 R))
  · rw [show f + 15 + 1 = f + 16 from rfl, told_at28 H]; rfl
  · rw [told_hit]; rfl
theorem told_step26 (f : Nat) (nA nu od : Bool) (x : Int) : pTold_L1 N l cl o p q n m j k nA nu od (f + 1) x false 26 = ((qSlashHebrew N l cl o p q n m j k nA nu od).bind fun (x, b) => pTold_L1 N l cl o p q n m j k nA nu od f x b 27) := rfl
theorem told_at26 (H : Pl N l cl o p q n m j k L R) (f : Nat) (nA nu od : Bool) (x : Int) : pTold_L1 N l cl o p q n m j k nA nu od (f + 18) x false 26 = some (rest26 nA nu od L R) := by
  rw [show f + 18 = f + 17 + 1 from rfl, told_step26, qSlashHebrew_ly H, Option.bind_some]
  unfold rest26
  show pTold_L1 N l cl o p q n m j k nA nu od (f + 16 + 1) 0 (([24] : List Int).contains (at0 L) && ([28] : List Int).contains (at0 R)) 27 = _
  cases (([24] : List Int).contains (at0 L) && ([28] : List Int).contains (at0 R))
  · rw [show f + 16 + 1 = f + 17 from rfl, told_at27 H]; rfl
  · rw [told_hit]; rfl
theorem told_step25 (f : Nat) (nA nu od : Bool) (x : Int) : pTold_L1 N l cl o p q n m j k nA nu od (f + 1) x false 25 = ((qBehindHebrewHyphen N l cl o p q n m j k nA nu od).bind fun (x, b) => pTold_L1 N l cl o p q n m j k nA nu od f x b 26) := rfl
theorem told_at25 (H : Pl N l cl o p q n m j k L R) (f : Nat) (nA nu od : Bool) (x : Int) : pTold_L1 N l cl o p q n m j k nA nu od (f + 19) x false 25 = some (rest25 nA nu od L R) := by
  rw [show f + 19 = f + 18 + 1 from rfl, told_step25, qBehindHebrewHyphen_ly H, Option.bind_some]
  unfold rest25
  show pTold_L1 N l cl o p q n m j k nA nu od (f + 17 + 1) 0 ((([28] : List Int).contains (at0 (L.drop 1)) && (([14] : List Int).contains (at0 L) || (([11] : List Int).contains (at0 L) && (!wd0 L)))) && (!([28] : List Int).contains (at0 R))) 26 = _
  cases ((([28] : List Int).contains (at0 (L.drop 1)) && (([14] : List Int).contains (at0 L) || (([11] : List Int).contains (at0 L) && (!wd0 L)))) && (!([28] : List Int).contains (at0 R)))
  · rw [show f + 17 + 1 = f + 18 from rfl, told_at26 H]; rfl
  · rw [told_hit]; rfl
theorem told_step24 (f : Nat) (nA nu od : Bool) (x : Int) : pTold_L1 N l cl o p q n m j k nA nu od (f + 1) x false 24 = ((qBesideHyphen N l cl o p q n m j k nA nu od).bind fun (x, b) => pTold_L1 N l cl o p q n m j k nA nu od f x b 25) := rfl
theorem told_at24 (H : Pl N l cl o p q n m j k L R) (f : Nat) (nA nu od : Bool) (x : Int) : pTold_L1 N l cl o p q n m j k nA nu od (f + 20) x false 24 = some (rest24 nA nu od L R) := by
  rw [show f + 20 = f + 19 + 1 from rfl, told_step24, qBesideHyphen_ly H, Option.bind_some]
  unfold rest24
  show pTold_L1 N l cl o p q n m j k nA nu od (f + 18 + 1) 0 (([11, 14, 18] : List Int).contains (at0 R) || ([12] : List Int).contains (at0 L)) 25 = _
  cases (([11, 14, 18] : List Int).contains (at0 R) || ([12] : List Int).contains (at0 L))
  · rw [show f + 18 + 1 = f + 19 from rfl, told_at25 H]; rfl
  · rw [told_hit]; rfl
theorem told_step23 (f : Nat) (nA nu od : Bool) (x : Int) : pTold_L1 N l cl o p q n m j k nA nu od (f + 1) x false 23 = ((qBehindFirstHyphen N l cl o p q n m j k nA nu od).bind fun (x, b) => pTold_L1 N l cl o p q n m j k nA nu od f x b 24) := rfl
theorem told_at23 (H : Pl N l cl o p q n m j k L R) (f : Nat) (nA nu od : Bool) (x : Int) : pTold_L1 N l cl o p q n m j k nA nu od (f + 21) x false 23 = some (rest23 nA nu od L R) := by
  rw [show f + 21 = f + 20 + 1 from rfl, told_step23, qBehindFirstHyphen_ly H, Option.bind_some]
  unfold rest23
  show pTold_L1 N l cl o p q n m j k nA nu od (f + 19 + 1) 0 ((((([14] : List Int).contains (at0 L) || (!L.isEmpty  &&  r0 L == 8208)) && ([0] : List Int).contains (at0 R)) && (edgeC (at0 (L.drop 1)) || ([15] : List Int).contains (at0 (L.drop 1))))) 24 = _
  cases ((((([14] : List Int).contains (at0 L) || (!L.isEmpty  &&  r0 L == 8208)) && ([0] : List Int).contains (at0 R)) && (edgeC (at0 (L.drop 1)) || ([15] : List Int).contains (at0 (L.drop 1)))))
  · rw [show f + 19 + 1 = f + 20 from rfl, told_at24 H]; rfl
  · rw [told_hit]; rfl
theorem told_step22 (f : Nat) (nA nu od : Bool) (x : Int) : pTold_L1 N l cl o p q n m j k nA nu od (f + 1) x false 22 = ((qBesideObject N l cl o p q n m j k nA nu od).bind fun (x, b) => pTold_L1 N l cl o p q n m j k nA nu od f x b 23) := rfl
theorem told_at22 (H : Pl N l cl o p q n m j k L R) (f : Nat) (nA nu od : Bool) (x : Int) : pTold_L1 N l cl o p q n m j k nA nu od (f + 22) x false 22 = some (rest22 nA nu od L R) := by
  rw [show f + 22 = f + 21 + 1 from rfl, told_step22, qBesideObject_ly H, Option.bind_some]
  unfold rest22
  show pTold_L1 N l cl o p q n m j k nA nu od (f + 20 + 1) 1 (([15] : List Int).contains (at0 L) || ([15] : List Int).contains (at0 R)) 23 = _
  cases (([15] : List Int).contains (at0 L) || ([15] : List Int).contains (at0 R))
  · rw [show f + 20 + 1 = f + 21 from rfl, told_at23 H]; rfl
  · rw [told_hit]; rfl
theorem told_step21 (f : Nat) (nA nu od : Bool) (x : Int) : pTold_L1 N l cl o p q n m j k nA nu od (f + 1) x false 21 = ((qBehindNarrowQuote N l cl o p q n m j k nA nu od).bind fun (x, b) => pTold_L1 N l cl o p q n m j k nA nu od f x b 22) := rfl
theorem told_at21 (H : Pl N l cl o p q n m j k L R) (f : Nat) (nA nu od : Bool) (x : Int) : pTold_L1 N l cl o p q n m j k nA nu od (f + 23) x false 21 = some (rest21 nA nu od L R) := by
  rw [show f + 23 = f + 22 + 1 from rfl, told_step21, qBehindNarrowQuote_ly H, Option.bind_some]
  unfold rest21
  show pTold_L1 N l cl o p q n m j k nA nu od (f + 21 + 1) 0 (([22] : List Int).contains (at0 L) && !(wd0 R && wd0 (L.drop 1))) 22 = _
  cases (([22] : List Int).contains (at0 L) && !(wd0 R && wd0 (L.drop 1)))
  · rw [show f + 21 + 1 = f + 22 from rfl, told_at22 H]; rfl
  · rw [told_hit]; rfl
theorem told_step20 (f : Nat) (nA nu od : Bool) (x : Int) : pTold_L1 N l cl o p q n m j k nA nu od (f + 1) x false 20 = ((qAheadOfNarrowQuote N l cl o p q n m j k nA nu od).bind fun (x, b) => pTold_L1 N l cl o p q n m j k nA nu od f x b 21) := rfl
theorem told_at20 (H : Pl N l cl o p q n m j k L R) (f : Nat) (nA nu od : Bool) (x : Int) : pTold_L1 N l cl o p q n m j k nA nu od (f + 24) x false 20 = some (rest20 nA nu od L R) := by
  rw [show f + 24 = f + 23 + 1 from rfl, told_step20, qAheadOfNarrowQuote_ly H, Option.bind_some]
  unfold rest20
  show pTold_L1 N l cl o p q n m j k nA nu od (f + 22 + 1) 0 (([22] : List Int).contains (at0 R) && !(wd0 L && wd0 (R.drop 1))) 21 = _
  cases (([22] : List Int).contains (at0 R) && !(wd0 L && wd0 (R.drop 1)))
  · rw [show f + 22 + 1 = f + 23 from rfl, told_at21 H]; rfl
  · rw [told_hit]; rfl
theorem told_step19 (f : Nat) (nA nu od : Bool) (x : Int) : pTold_L1 N l cl o p q n m j k nA nu od (f + 1) x false 19 = ((qBehindQuote N l cl o p q n m j k nA nu od).bind fun (x, b) => pTold_L1 N l cl o p q n m j k nA nu od f x b 20) := rfl
theorem told_at19 (H : Pl N l cl o p q n m j k L R) (f : Nat) (nA nu od : Bool) (x : Int) : pTold_L1 N l cl o p q n m j k nA nu od (f + 25) x false 19 = some (rest19 nA nu od L R) := by
  rw [show f + 25 = f + 24 + 1 from rfl, told_step19, qBehindQuote_ly H, Option.bind_some]
  unfold rest19
  show pTold_L1 N l cl o p q n m j k nA nu od (f + 23 + 1) 0 (([22] : List Int).contains (at0 L) && (!clsL L)) 20 = _
  cases (([22] : List Int).contains (at0 L) && (!clsL L))
  · rw [show f + 23 + 1 = f + 24 from rfl, told_at20 H]; rfl
  · rw [told_hit]; rfl
theorem told_step18 (f : Nat) (nA nu od : Bool) (x : Int) : pTold_L1 N l cl o p q n m j k nA nu od (f + 1) x false 18 = ((qAheadOfQuote N l cl o p q n m j k nA nu od).bind fun (x, b) => pTold_L1 N l cl o p q n m j k nA nu od f x b 19) := rfl
theorem told_at18 (H : Pl N l cl o p q n m j k L R) (f : Nat) (nA nu od : Bool) (x : Int) : pTold_L1 N l cl o p q n m j k nA nu od (f + 26) x false 18 = some (rest18 nA nu od L R) := by
  rw [show f + 26 = f + 25 + 1 from rfl, told_step18, qAheadOfQuote_ly H, Option.bind_some]
  unfold rest18
  show pTold_L1 N l cl o p q n m j k nA nu od (f + 24 + 1) 0 (([22] : List Int).contains (at0 R) && (!opnL R)) 19 = _
  cases (([22] : List Int).contains (at0 R) && (!opnL R))
  · rw [show f + 24 + 1 = f + 25 from rfl, told_at19 H]; rfl
  · rw [told_hit]; rfl
theorem told_step17 (f : Nat) (nA nu od : Bool) (x : Int) : pTold_L1 N l cl o p q n m j k nA nu od (f + 1) x false 17 = ((qBehindSpace N l cl o p q n m j k nA nu od).bind fun (x, b) => pTold_L1 N l cl o p q n m j k nA nu od f x b 18) := rfl
theorem told_at17 (H : Pl N l cl o p q n m j k L R) (f : Nat) (nA nu od : Bool) (x : Int) : pTold_L1 N l cl o p q n m j k nA nu od (f + 27) x false 17 = some (rest17 nA nu od L R) := by
  rw [show f + 27 = f + 26 + 1 from rfl, told_step17, qBehindSpace_ly H, Option.bind_some]
  unfold rest17
  show pTold_L1 N l cl o p q n m j k nA nu od (f + 25 + 1) 1 (([5] : List Int).contains (at0 L)) 18 = _
  cases (([5] : List Int).contains (at0 L))
  · rw [show f + 25 + 1 = f + 26 from rfl, told_at18 H]; rfl
  · rw [told_hit]; rfl
theorem told_step16 (f : Nat) (nA nu od : Bool) (x : Int) : pTold_L1 N l cl o p q n m j k nA nu od (f + 1) x false 16 = ((qBetweenDashes N l cl o p q n m j k nA nu od).bind fun (x, b) => pTold_L1 N l cl o p q n m j k nA nu od f x b 17) := rfl
theorem told_at16 (H : Pl N l cl o p q n m j k L R) (f : Nat) (nA nu od : Bool) (x : Int) : pTold_L1 N l cl o p q n m j k nA nu od (f + 28) x false 16 = some (rest16 nA nu od L R) := by
  rw [show f + 28 = f + 27 + 1 from rfl, told_step16, qBetweenDashes_ly H, Option.bind_some]
  unfold rest16
  show pTold_L1 N l cl o p q n m j k nA nu od (f + 26 + 1) 0 (([13] : List Int).contains (at0 (spk L)) && ([13] : List Int).contains (at0 R)) 17 = _
  cases (([13] : List Int).contains (at0 (spk L)) && ([13] : List Int).contains (at0 R))
  · rw [show f + 26 + 1 = f + 27 from rfl, told_at17 H]; rfl
  · rw [told_hit]; rfl
theorem told_step15 (f : Nat) (nA nu od : Bool) (x : Int) : pTold_L1 N l cl o p q n m j k nA nu od (f + 1) x false 15 = ((qAheadOfNonstarter N l cl o p q n m j k nA nu od).bind fun (x, b) => pTold_L1 N l cl o p q n m j k nA nu od f x b 16) := rfl
theorem told_at15 (H : Pl N l cl o p q n m j k L R) (f : Nat) (nA nu od : Bool) (x : Int) : pTold_L1 N l cl o p q n m j k nA nu od (f + 29) x false 15 = some (rest15 nA nu od L R) := by
  rw [show f + 29 = f + 28 + 1 from rfl, told_step15, qAheadOfNonstarter_ly H, Option.bind_some]
  unfold rest15
  show pTold_L1 N l cl o p q n m j k nA nu od (f + 27 + 1) 0 (([21, 20] : List Int).contains (at0 (spk L)) && ([18] : List Int).contains (at0 R)) 16 = _
  cases (([21, 20] : List Int).contains (at0 (spk L)) && ([18] : List Int).contains (at0 R))
  · rw [show f + 27 + 1 = f + 28 from rfl, told_at16 H]; rfl
  · rw [told_hit]; rfl
theorem told_step14 (f : Nat) (nA nu od : Bool) (x : Int) : pTold_L1 N l cl o p q n m j k nA nu od (f + 1) x false 14 = ((qAheadOfSeparator N l cl o p q n m j k nA nu od).bind fun (x, b) => pTold_L1 N l cl o p q n m j k nA nu od f x b 15) := rfl
theorem told_at14 (H : Pl N l cl o p q n m j k L R) (f : Nat) (nA nu od : Bool) (x : Int) : pTold_L1 N l cl o p q n m j k nA nu od (f + 30) x false 14 = some (rest14 nA nu od L R) := by
  rw [show f + 30 = f + 29 + 1 from rfl, told_step14, qAheadOfSeparator_ly H, Option.bind_some]
  unfold rest14
  show pTold_L1 N l cl o p q n m j k nA nu od (f + 28 + 1) 0 (([23] : List Int).contains (at0 R)) 15 = _
  cases (([23] : List Int).contains (at0 R))
  · rw [show f + 28 + 1 = f + 29 from rfl, told_at15 H]; rfl
  · rw [told_hit]; rfl
theorem told_step13 (f : Nat) (nA nu od : Bool) (x : Int) : pTold_L1 N l cl o p q n m j k nA nu od (f + 1) x false 13 = ((qAheadOfDecimals N l cl o p q n m j k nA nu od).bind fun (x, b) => pTold_L1 N l cl o p q n m j k nA nu od f x b 14) := rfl
theorem told_at13 (H : Pl N l cl o p q n m j k L R) (f : Nat) (nA nu od : Bool) (x : Int) : pTold_L1 N l cl o p q n m j k nA nu od (f + 31) x false 13 = some (rest13 nA nu od L R) := by
  rw [show f + 31 = f + 30 + 1 from rfl, told_step13, qAheadOfDecimals_ly H, Option.bind_some]
  unfold rest13
  show pTold_L1 N l cl o p q n m j k nA nu od (f + 29 + 1) 1 ((([5] : List Int).contains (at0 L) && ([23] : List Int).contains (at0 R)) && ([27] : List Int).contains (at0 (R.drop 1))) 14 = _
  cases ((([5] : List Int).contains (at0 L) && ([23] : List Int).contains (at0 R)) && ([27] : List Int).contains (at0 (R.drop 1)))
  · rw [show f + 29 + 1 = f + 30 from rfl, told_at14 H]; rfl
  · rw [told_hit]; rfl
theorem told_step12 (f : Nat) (nA nu od : Bool) (x : Int) : pTold_L1 N l cl o p q n m j k nA nu od (f + 1) x false 12 = ((qAheadOfClosingQuote N l cl o p q n m j k nA nu od).bind fun (x, b) => pTold_L1 N l cl o p q n m j k nA nu od f x b 13) := rfl
theorem told_at12 (H : Pl N l cl o p q n m j k L R) (f : Nat) (nA nu od : Bool) (x : Int) : pTold_L1 N l cl o p q n m j k nA nu od (f + 32) x false 12 = some (rest12 nA nu od L R) := by
  rw [show f + 32 = f + 31 + 1 from rfl, told_step12, qAheadOfClosingQuote_ly H, Option.bind_some]
  unfold rest12
  show pTold_L1 N l cl o p q n m j k nA nu od (f + 30 + 1) 0 (clsL R && (edgeC (at0 (R.drop 1)) || ([7, 21, 22, 20, 16, 23, 24] : List Int).contains (at0 (R.drop 1)))) 13 = _
  cases (clsL R && (edgeC (at0 (R.drop 1)) || ([7, 21, 22, 20, 16, 23, 24] : List Int).contains (at0 (R.drop 1))))
  · rw [show f + 30 + 1 = f + 31 from rfl, told_at13 H]; rfl
  · rw [told_hit]; rfl
theorem told_step11 (f : Nat) (nA nu od : Bool) (x : Int) : pTold_L1 N l cl o p q n m j k nA nu od (f + 1) x false 11 = ((qBehindOpeningQuote N l cl o p q n m j k nA nu od).bind fun (x, b) => pTold_L1 N l cl o p q n m j k nA nu od f x b 12) := rfl
theorem told_at11 (H : Pl N l cl o p q n m j k L R) (f : Nat) (nA nu od : Bool) (x : Int) : pTold_L1 N l cl o p q n m j k nA nu od (f + 33) x false 11 = some (rest11 nA nu od L R) := by
  rw [show f + 33 = f + 32 + 1 from rfl, told_step11, qBehindOpeningQuote_ly H, Option.bind_some]
  unfold rest11
  show pTold_L1 N l cl o p q n m j k nA nu od (f + 31 + 1) 0 (opnL (spk L) && (edgeC (at0 ((spk L).drop 1)) || ([19, 22] : List Int).contains (at0 ((spk L).drop 1)))) 12 = _
  cases (opnL (spk L) && (edgeC (at0 ((spk L).drop 1)) || ([19, 22] : List Int).contains (at0 ((spk L).drop 1))))
  · rw [show f + 31 + 1 = f + 32 from rfl, told_at12 H]; rfl
  · rw [told_hit]; rfl
theorem told_step10 (f : Nat) (nA nu od : Bool) (x : Int) : pTold_L1 N l cl o p q n m j k nA nu od (f + 1) x false 10 = ((qBehindOpening N l cl o p q n m j k nA nu od).bind fun (x, b) => pTold_L1 N l cl o p q n m j k nA nu od f x b 11) := rfl
theorem told_at10 (H : Pl N l cl o p q n m j k L R) (f : Nat) (nA nu od : Bool) (x : Int) : pTold_L1 N l cl o p q n m j k nA nu od (f + 34) x false 10 = some (rest10 nA nu od L R) := by
  rw [show f + 34 = f + 33 + 1 from rfl, told_step10, qBehindOpening_ly H, Option.bind_some]
  unfold rest10
  show pTold_L1 N l cl o p q n m j k nA nu od (f + 32 + 1) 0 (([19] : List Int).contains (at0 (spk L))) 11 = _
  cases (([19] : List Int).contains (at0 (spk L)))
  · rw [show f + 32 + 1 = f + 33 from rfl, told_at11 H]; rfl
  · rw [told_hit]; rfl
theorem told_step9 (f : Nat) (nA nu od : Bool) (x : Int) : pTold_L1 N l cl o p q n m j k nA nu od (f + 1) x false 9 = ((qAheadOfClosing N l cl o p q n m j k nA nu od).bind fun (x, b) => pTold_L1 N l cl o p q n m j k nA nu od f x b 10) := rfl
theorem told_at9 (H : Pl N l cl o p q n m j k L R) (f : Nat) (nA nu od : Bool) (x : Int) : pTold_L1 N l cl o p q n m j k nA nu od (f + 35) x false 9 = some (rest9 nA nu od L R) := by
  rw [show f + 35 = f + 34 + 1 from rfl, told_step9, qAheadOfClosing_ly H, Option.bind_some]
  unfold rest9
  show pTold_L1 N l cl o p q n m j k nA nu od (f + 33 + 1) 0 (([21, 20, 16, 24] : List Int).contains (at0 R)) 10 = _
  cases (([21, 20, 16, 24] : List Int).contains (at0 R))
  · rw [show f + 33 + 1 = f + 34 from rfl, told_at10 H]; rfl
  · rw [told_hit]; rfl
theorem told_step8 (f : Nat) (nA nu od : Bool) (x : Int) : pTold_L1 N l cl o p q n m j k nA nu od (f + 1) x false 8 = ((qAheadOfGlue N l cl o p q n m j k nA nu od).bind fun (x, b) => pTold_L1 N l cl o p q n m j k nA nu od f x b 9) := rfl
theorem told_at8 (H : Pl N l cl o p q n m j k L R) (f : Nat) (nA nu od : Bool) (x : Int) : pTold_L1 N l cl o p q n m j k nA nu od (f + 36) x false 8 = some (rest8 nA nu od L R) := by
  rw [show f + 36 = f + 35 + 1 from rfl, told_step8, qAheadOfGlue_ly H, Option.bind_some]
  unfold rest8
  show pTold_L1 N l cl o p q n m j k nA nu od (f + 34 + 1) 0 (([8] : List Int).contains (at0 R) && (!([5, 11, 14] : List Int).contains (at0 L))) 9 = _
  cases (([8] : List Int).contains (at0 R) && (!([5, 11, 14] : List Int).contains (at0 L)))
  · rw [show f + 34 + 1 = f + 35 from rfl, told_at9 H]; rfl
  · rw [told_hit]; rfl
theorem told_step7 (f : Nat) (nA nu od : Bool) (x : Int) : pTold_L1 N l cl o p q n m j k nA nu od (f + 1) x false 7 = ((qBehindGlue N l cl o p q n m j k nA nu od).bind fun (x, b) => pTold_L1 N l cl o p q n m j k nA nu od f x b 8) := rfl
theorem told_at7 (H : Pl N l cl o p q n m j k L R) (f : Nat) (nA nu od : Bool) (x : Int) : pTold_L1 N l cl o p q n m j k nA nu od (f + 37) x false 7 = some (rest7 nA nu od L R) := by
  rw [show f + 37 = f + 36 + 1 from rfl, told_step7, qBehindGlue_ly H, Option.bind_some]
  unfold rest7
  show pTold_L1 N l cl o p q n m j k nA nu od (f + 35 + 1) 0 (([8] : List Int).contains (at0 L)) 8 = _
  cases (([8] : List Int).contains (at0 L))
  · rw [show f + 35 + 1 = f + 36 from rfl, told_at8 H]; rfl
  · rw [told_hit]; rfl
theorem told_step6 (f : Nat) (nA nu od : Bool) (x : Int) : pTold_L1 N l cl o p q n m j k nA nu od (f + 1) x false 6 = ((qBesideWordJoiner N l cl o p q n m j k nA nu od).bind fun (x, b) => pTold_L1 N l cl o p q n m j k nA nu od f x b 7) := rfl
theorem told_at6 (H : Pl N l cl o p q n m j k L R) (f : Nat) (nA nu od : Bool) (x : Int) : pTold_L1 N l cl o p q n m j k nA nu od (f + 38) x false 6 = some (rest6 nA nu od L R) := by
  rw [show f + 38 = f + 37 + 1 from rfl, told_step6, qBesideWordJoiner_ly H, Option.bind_some]
  unfold rest6
  show pTold_L1 N l cl o p q n m j k nA nu od (f + 36 + 1) 0 (([7] : List Int).contains (at0 L) || ([7] : List Int).contains (at0 R)) 7 = _
  cases (([7] : List Int).contains (at0 L) || ([7] : List Int).contains (at0 R))
  · rw [show f + 36 + 1 = f + 37 from rfl, told_at7 H]; rfl
  · rw [told_hit]; rfl
theorem told_step5 (f : Nat) (nA nu od : Bool) (x : Int) : pTold_L1 N l cl o p q n m j k nA nu od (f + 1) x false 5 = ((qBehindJoiner N l cl o p q n m j k nA nu od).bind fun (x, b) => pTold_L1 N l cl o p q n m j k nA nu od f x b 6) := rfl
theorem told_at5 (H : Pl N l cl o p q n m j k L R) (f : Nat) (nA nu od : Bool) (x : Int) : pTold_L1 N l cl o p q n m j k nA nu od (f + 39) x false 5 = some (rest5 nA nu od L R) := by
  rw [show f + 39 = f + 38 + 1 from rfl, told_step5, qBehindJoiner_ly H, Option.bind_some]
  unfold rest5
  show pTold_L1 N l cl o p q n m j k nA nu od (f + 37 + 1) 0 (zw0 L) 6 = _
  cases (zw0 L)
  · rw [show f + 37 + 1 = f + 38 from rfl, told_at6 H]; rfl
  · rw [told_hit]; rfl
theorem told_step4 (f : Nat) (nA nu od : Bool) (x : Int) : pTold_L1 N l cl o p q n m j k nA nu od (f + 1) x false 4 = ((qBehindZeroSpace N l cl o p q n m j k nA nu od).bind fun (x, b) => pTold_L1 N l cl o p q n m j k nA nu od f x b 5) := rfl
theorem told_at4 (H : Pl N l cl o p q n m j k L R) (f : Nat) (nA nu od : Bool) (x : Int) : pTold_L1 N l cl o p q n m j k nA nu od (f + 40) x false 4 = some (rest4 nA nu od L R) := by
  rw [show f + 40 = f + 39 + 1 from rfl, told_step4, qBehindZeroSpace_ly H, Option.bind_some]
  unfold rest4
  show pTold_L1 N l cl o p q n m j k nA nu od (f + 38 + 1) 1 (([6] : List Int).contains (at0 (spk L))) 5 = _
  cases (([6] : List Int).contains (at0 (spk L)))
  · rw [show f + 38 + 1 = f + 39 from rfl, told_at5 H]; rfl
  · rw [told_hit]; rfl
theorem told_step3 (f : Nat) (nA nu od : Bool) (x : Int) : pTold_L1 N l cl o p q n m j k nA nu od (f + 1) x false 3 = ((qAheadOfSpace N l cl o p q n m j k nA nu od).bind fun (x, b) => pTold_L1 N l cl o p q n m j k nA nu od f x b 4) := rfl
theorem told_at3 (H : Pl N l cl o p q n m j k L R) (f : Nat) (nA nu od : Bool) (x : Int) : pTold_L1 N l cl o p q n m j k nA nu od (f + 41) x false 3 = some (rest3 nA nu od L R) := by
  rw [show f + 41 = f + 40 + 1 from rfl, told_step3, qAheadOfSpace_ly H, Option.bind_some]
  unfold rest3
  show pTold_L1 N l cl o p q n m j k nA nu od (f + 39 + 1) 0 (([1, 2, 3, 4, 5, 6] : List Int).contains (at0 R)) 4 = _
  cases (([1, 2, 3, 4, 5, 6] : List Int).contains (at0 R))
  · rw [show f + 39 + 1 = f + 40 from rfl, told_at4 H]; rfl
  · rw [told_hit]; rfl
theorem told_step2 (f : Nat) (nA nu od : Bool) (x : Int) : pTold_L1 N l cl o p q n m j k nA nu od (f + 1) x false 2 = ((qBehindLine N l cl o p q n m j k nA nu od).bind fun (x, b) => pTold_L1 N l cl o p q n m j k nA nu od f x b 3) := rfl
theorem told_at2 (H : Pl N l cl o p q n m j k L R) (f : Nat) (nA nu od : Bool) (x : Int) : pTold_L1 N l cl o p q n m j k nA nu od (f + 42) x false 2 = some (rest2 nA nu od L R) := by
  rw [show f + 42 = f + 41 + 1 from rfl, told_step2, qBehindLine_ly H, Option.bind_some]
  unfold rest2
  show pTold_L1 N l cl o p q n m j k nA nu od (f + 40 + 1) 2 (([2, 3, 4] : List Int).contains (at0 L)) 3 = _
  cases (([2, 3, 4] : List Int).contains (at0 L))
  · rw [show f + 40 + 1 = f + 41 from rfl, told_at3 H]; rfl
  · rw [told_hit]; rfl
theorem told_step1 (f : Nat) (nA nu od : Bool) (x : Int) : pTold_L1 N l cl o p q n m j k nA nu od (f + 1) x false 1 = ((qWithinReturn N l cl o p q n m j k nA nu od).bind fun (x, b) => pTold_L1 N l cl o p q n m j k nA nu od f x b 2) := rfl
theorem told_at1 (H : Pl N l cl o p q n m j k L R) (f : Nat) (nA nu od : Bool) (x : Int) : pTold_L1 N l cl o p q n m j k nA nu od (f + 43) x false 1 = some (rest1 nA nu od L R) := by
  rw [show f + 43 = f + 42 + 1 from rfl, told_step1, qWithinReturn_ly H, Option.bind_some]
  unfold rest1
  show pTold_L1 N l cl o p q n m j k nA nu od (f + 41 + 1) 0 (([2] : List Int).contains (at0 L) && ([3] : List Int).contains (at0 R)) 2 = _
  cases (([2] : List Int).contains (at0 L) && ([3] : List Int).contains (at0 R))
  · rw [show f + 41 + 1 = f + 42 from rfl, told_at2 H]; rfl
  · rw [told_hit]; rfl
theorem told_step0 (f : Nat) (nA nu od : Bool) (x : Int) : pTold_L1 N l cl o p q n m j k nA nu od (f + 1) x false 0 = ((qBehindBreak N l cl o p q n m j k nA nu od).bind fun (x, b) => pTold_L1 N l cl o p q n m j k nA nu od f x b 1) := rfl
theorem told_at0 (H : Pl N l cl o p q n m j k L R) (f : Nat) (nA nu od : Bool) (x : Int) : pTold_L1 N l cl o p q n m j k nA nu od (f + 44) x false 0 = some (rest0 nA nu od L R) := by
  rw [show f + 44 = f + 43 + 1 from rfl, told_step0, qBehindBreak_ly H, Option.bind_some]
  unfold rest0
  show pTold_L1 N l cl o p q n m j k nA nu od (f + 42 + 1) 2 (([1] : List Int).contains (at0 L)) 1 = _
  cases (([1] : List Int).contains (at0 L))
  · rw [show f + 42 + 1 = f + 43 from rfl, told_at1 H]; rfl
  · rw [told_hit]; rfl
theorem pTold_ly (H : Pl N l cl o p q n m j k L R) (nA nu od : Bool) : pTold N l cl o p q n m j k nA nu od = some (rest0 nA nu od L R) := by
  unfold pTold
  obtain ⟨f, hf⟩ : ∃ f, N = f + 44 := ⟨N - 44, by have := H.big; omega⟩
  have h := told_at0 H f nA nu od 0
  rw [← hf] at h
  rw [h]
  rfl
end
end Go.Proofs.YtdbimchiecdkoaaGreat
