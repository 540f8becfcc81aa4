/-
  The program, walked.
-/
import Derived.Test.YtdbimchiecdkoaaGreatP2
import Derived.Test.YtdbimchiecdkoaaGreatP1a
import Derived.Test.YtdbimchiecdkoaaGreatP1b
import Derived.Test.YtdbimchiecdkoaaGreatP1c
import Derived.Test.YtdbimchiecdkoaaGreatP1d
import Derived.Test.YtdbimchiecdkoaaGreatP1e
import Derived.Test.YtdbimchiecdkoaaGreatP1f
import Derived.Test.YtdbimchiecdkoaaGreatP1g
namespace Go.Proofs.YtdbimchiecdkoaaGreat
open Go Go.RowKit
set_option maxRecDepth 100000
set_option maxHeartbeats 4000000
set_option linter.unusedVariables false
def pTold_L1 (N : Nat) (zb : List Int) (zg : List Int) (zl : Int) (zn : Int) (p0_4 : Int) (p0_5 : Int) (p0_6 : Int) (p0_7 : Int) (p0_8 : Int) (p0_9 : Bool) (p0_10 : Bool) (p0_11 : Bool) : Nat → Int → Bool → Int → Option (Int)
 | 0, _, _, _ => none
 | k20+1, x17, b18, x19 => (match b18 with | true => some (x17) | false => (if x19 = 0 then ((qBehindBreak N zb zg zl zn p0_4 p0_5 p0_6 p0_7 p0_8 p0_9 p0_10 p0_11).bind fun (x35, b36) => pTold_L1 N zb zg zl zn p0_4 p0_5 p0_6 p0_7 p0_8 p0_9 p0_10 p0_11 k20 x35 b36 (IntKind.i64.wrap (x19 + 1))) else (if x19 = 1 then ((qWithinReturn N zb zg zl zn p0_4 p0_5 p0_6 p0_7 p0_8 p0_9 p0_10 p0_11).bind fun (x47, b48) => pTold_L1 N zb zg zl zn p0_4 p0_5 p0_6 p0_7 p0_8 p0_9 p0_10 p0_11 k20 x47 b48 (IntKind.i64.wrap (x19 + 1))) else (if x19 = 2 then ((qBehindLine N zb zg zl zn p0_4 p0_5 p0_6 p0_7 p0_8 p0_9 p0_10 p0_11).bind fun (x59, b60) => pTold_L1 N zb zg zl zn p0_4 p0_5 p0_6 p0_7 p0_8 p0_9 p0_10 p0_11 k20 x59 b60 (IntKind.i64.wrap (x19 + 1))) else (if x19 = 3 then ((qAheadOfSpace N zb zg zl zn p0_4 p0_5 p0_6 p0_7 p0_8 p0_9 p0_10 p0_11).bind fun (x71, b72) => pTold_L1 N zb zg zl zn p0_4 p0_5 p0_6 p0_7 p0_8 p0_9 p0_10 p0_11 k20 x71 b72 (IntKind.i64.wrap (x19 + 1))) else (if x19 = 4 then ((qBehindZeroSpace N zb zg zl zn p0_4 p0_5 p0_6 p0_7 p0_8 p0_9 p0_10 p0_11).bind fun (x83, b84) => pTold_L1 N zb zg zl zn p0_4 p0_5 p0_6 p0_7 p0_8 p0_9 p0_10 p0_11 k20 x83 b84 (IntKind.i64.wrap (x19 + 1))) else (if x19 = 5 then ((qBehindJoiner N zb zg zl zn p0_4 p0_5 p0_6 p0_7 p0_8 p0_9 p0_10 p0_11).bind fun (x95, b96) => pTold_L1 N zb zg zl zn p0_4 p0_5 p0_6 p0_7 p0_8 p0_9 p0_10 p0_11 k20 x95 b96 (IntKind.i64.wrap (x19 + 1))) else (if x19 = 6 then ((qBesideWordJoiner N zb zg zl zn p0_4 p0_5 p0_6 p0_7 p0_8 p0_9 p0_10 p0_11).bind fun (x107, b108) => pTold_L1 N zb zg zl zn p0_4 p0_5 p0_6 p0_7 p0_8 p0_9 p0_10 p0_11 k20 x107 b108 (IntKind.i64.wrap (x19 + 1))) else (if x19 = 7 then ((qBehindGlue N zb zg zl zn p0_4 p0_5 p0_6 p0_7 p0_8 p0_9 p0_10 p0_11).bind fun (x119, b120) => pTold_L1 N zb zg zl zn p0_4 p0_5 p0_6 p0_7 p0_8 p0_9 p0_10 p0_11 k20 x119 b120 (IntKind.i64.wrap (x19 + 1))) else (if x19 = 8 then ((qAheadOfGlue N zb zg zl zn p0_4 p0_5 p0_6 p0_7 p0_8 p0_9 p0_10 p0_11).bind fun (x131, b132) => pTold_L1 N zb zg zl zn p0_4 p0_5 p0_6 p0_7 p0_8 p0_9 p0_10 p0_11 k20 x131 b132 (IntKind.i64.wrap (x19 + 1))) else (if x19 = 9 then ((qAheadOfClosing N zb zg zl zn p0_4 p0_5 p0_6 p0_7 p0_8 p0_9 p0_10 p0_11).bind fun (x143, b144) => pTold_L1 N zb zg zl zn p0_4 p0_5 p0_6 p0_7 p0_8 p0_9 p0_10 p0_11 k20 x143 b144 (IntKind.i64.wrap (x19 + 1))) else (if x19 = 10 then ((qBehindOpening N zb zg zl zn p0_4 p0_5 p0_6 p0_7 p0_8 p0_9 p0_10 p0_11).bind fun (x155, b156) => pTold_L1 N zb zg zl zn p0_4 p0_5 p0_6 p0_7 p0_8 p0_9 p0_10 p0_11 k20 x155 b156 (IntKind.i64.wrap (x19 + 1))) else (if x19 = 11 then ((qBehindOpeningQuote N zb zg zl zn p0_4 p0_5 p0_6 p0_7 p0_8 p0_9 p0_10 p0_11).bind fun (x167, b168) => pTold_L1 N zb zg zl zn p0_4 p0_5 p0_6 p0_7 p0_8 p0_9 p0_10 p0_11 k20 x167 b168 (IntKind.i64.wrap (x19 + 1))) else (if x19 = 12 then ((qAheadOfClosingQuote N zb zg zl zn p0_4 p0_5 p0_6 p0_7 p0_8 p0_9 p0_10 p0_11).bind fun (x179, b180) => pTold_L1 N zb zg zl zn p0_4 p0_5 p0_6 p0_7 p0_8 p0_9 p0_10 p0_11 k20 x179 b180 (IntKind.i64.wrap (x19 + 1))) else (if x19 = 13 then ((qAheadOfDecimals N zb zg zl zn p0_4 p0_5 p0_6 p0_7 p0_8 p0_9 p0_10 p0_11).bind fun (x191, b192) => pTold_L1 N zb zg zl zn p0_4 p0_5 p0_6 p0_7 p0_8 p0_9 p0_10 p0_11 k20 x191 b192 (IntKind.i64.wrap (x19 + 1))) else (if x19 = 14 then ((qAheadOfSeparator N zb zg zl zn p0_4 p0_5 p0_6 p0_7 p0_8 p0_9 p0_10 p0_11).bind fun (x203, b204) => pTold_L1 N zb zg zl zn p0_4 p0_5 p0_6 p0_7 p0_8 p0_9 p0_10 p0_11 k20 x203 b204 (IntKind.i64.wrap (x19 + 1))) else (if x19 = 15 then ((qAheadOfNonstarter N zb zg zl zn p0_4 p0_5 p0_6 p0_7 p0_8 p0_9 p0_10 p0_11).bind fun (x215, b216) => pTold_L1 N zb zg zl zn p0_4 p0_5 p0_6 p0_7 p0_8 p0_9 p0_10 p0_11 k20 x215 b216 (IntKind.i64.wrap (x19 + 1))) else (if x19 = 16 then ((qBetweenDashes N zb zg zl zn p0_4 p0_5 p0_6 p0_7 p0_8 p0_9 p0_10 p0_11).bind fun (x227, b228) => pTold_L1 N zb zg zl zn p0_4 p0_5 p0_6 p0_7 p0_8 p0_9 p0_10 p0_11 k20 x227 b228 (IntKind.i64.wrap (x19 + 1))) else (if x19 = 17 then ((qBehindSpace N zb zg zl zn p0_4 p0_5 p0_6 p0_7 p0_8 p0_9 p0_10 p0_11).bind fun (x239, b240) => pTold_L1 N zb zg zl zn p0_4 p0_5 p0_6 p0_7 p0_8 p0_9 p0_10 p0_11 k20 x239 b240 (IntKind.i64.wrap (x19 + 1))) else (if x19 = 18 then ((qAheadOfQuote N zb zg zl zn p0_4 p0_5 p0_6 p0_7 p0_8 p0_9 p0_10 p0_11).bind fun (x251, b252) => pTold_L1 N zb zg zl zn p0_4 p0_5 p0_6 p0_7 p0_8 p0_9 p0_10 p0_11 k20 x251 b252 (IntKind.i64.wrap (x19 + 1))) else (if x19 = 19 then ((qBehindQuote N zb zg zl zn p0_4 p0_5 p0_6 p0_7 p0_8 p0_9 p0_10 p0_11).bind fun (x263, b264) => pTold_L1 N zb zg zl zn p0_4 p0_5 p0_6 p0_7 p0_8 p0_9 p0_10 p0_11 k20 x263 b264 (IntKind.i64.wrap (x19 + 1))) else (if x19 = 20 then ((qAheadOfNarrowQuote N zb zg zl zn p0_4 p0_5 p0_6 p0_7 p0_8 p0_9 p0_10 p0_11).bind fun (x275, b276) => pTold_L1 N zb zg zl zn p0_4 p0_5 p0_6 p0_7 p0_8 p0_9 p0_10 p0_11 k20 x275 b276 (IntKind.i64.wrap (x19 + 1))) else (if x19 = 21 then ((qBehindNarrowQuote N zb zg zl zn p0_4 p0_5 p0_6 p0_7 p0_8 p0_9 p0_10 p0_11).bind fun (x287, b288) => pTold_L1 N zb zg zl zn p0_4 p0_5 p0_6 p0_7 p0_8 p0_9 p0_10 p0_11 k20 x287 b288 (IntKind.i64.wrap (x19 + 1))) else (if x19 = 22 then ((qBesideObject N zb zg zl zn p0_4 p0_5 p0_6 p0_7 p0_8 p0_9 p0_10 p0_11).bind fun (x299, b300) => pTold_L1 N zb zg zl zn p0_4 p0_5 p0_6 p0_7 p0_8 p0_9 p0_10 p0_11 k20 x299 b300 (IntKind.i64.wrap (x19 + 1))) else (if x19 = 23 then ((qBehindFirstHyphen N zb zg zl zn p0_4 p0_5 p0_6 p0_7 p0_8 p0_9 p0_10 p0_11).bind fun (x311, b312) => pTold_L1 N zb zg zl zn p0_4 p0_5 p0_6 p0_7 p0_8 p0_9 p0_10 p0_11 k20 x311 b312 (IntKind.i64.wrap (x19 + 1))) else (if x19 = 24 then ((qBesideHyphen N zb zg zl zn p0_4 p0_5 p0_6 p0_7 p0_8 p0_9 p0_10 p0_11).bind fun (x323, b324) => pTold_L1 N zb zg zl zn p0_4 p0_5 p0_6 p0_7 p0_8 p0_9 p0_10 p0_11 k20 x323 b324 (IntKind.i64.wrap (x19 + 1))) else (if x19 = 25 then ((qBehindHebrewHyphen N zb zg zl zn p0_4 p0_5 p0_6 p0_7 p0_8 p0_9 p0_10 p0_11).bind fun (x335, b336) => pTold_L1 N zb zg zl zn p0_4 p0_5 p0_6 p0_7 p0_8 p0_9 p0_10 p0_11 k20 x335 b336 (IntKind.i64.wrap (x19 + 1))) else (if x19 = 26 then ((qSlashHebrew N zb zg zl zn p0_4 p0_5 p0_6 p0_7 p0_8 p0_9 p0_10 p0_11).bind fun (x347, b348) => pTold_L1 N zb zg zl zn p0_4 p0_5 p0_6 p0_7 p0_8 p0_9 p0_10 p0_11 k20 x347 b348 (IntKind.i64.wrap (x19 + 1))) else (if x19 = 27 then ((qAheadOfEllipsis N zb zg zl zn p0_4 p0_5 p0_6 p0_7 p0_8 p0_9 p0_10 p0_11).bind fun (x359, b360) => pTold_L1 N zb zg zl zn p0_4 p0_5 p0_6 p0_7 p0_8 p0_9 p0_10 p0_11 k20 x359 b360 (IntKind.i64.wrap (x19 + 1))) else (if x19 = 28 then ((qLetterDigit N zb zg zl zn p0_4 p0_5 p0_6 p0_7 p0_8 p0_9 p0_10 p0_11).bind fun (x371, b372) => pTold_L1 N zb zg zl zn p0_4 p0_5 p0_6 p0_7 p0_8 p0_9 p0_10 p0_11 k20 x371 b372 (IntKind.i64.wrap (x19 + 1))) else (if x19 = 29 then ((qSignIdeograph N zb zg zl zn p0_4 p0_5 p0_6 p0_7 p0_8 p0_9 p0_10 p0_11).bind fun (x383, b384) => pTold_L1 N zb zg zl zn p0_4 p0_5 p0_6 p0_7 p0_8 p0_9 p0_10 p0_11 k20 x383 b384 (IntKind.i64.wrap (x19 + 1))) else (if x19 = 30 then ((qSignLetter N zb zg zl zn p0_4 p0_5 p0_6 p0_7 p0_8 p0_9 p0_10 p0_11).bind fun (x395, b396) => pTold_L1 N zb zg zl zn p0_4 p0_5 p0_6 p0_7 p0_8 p0_9 p0_10 p0_11 k20 x395 b396 (IntKind.i64.wrap (x19 + 1))) else (if x19 = 31 then ((qNumberSign N zb zg zl zn p0_4 p0_5 p0_6 p0_7 p0_8 p0_9 p0_10 p0_11).bind fun (x407, b408) => pTold_L1 N zb zg zl zn p0_4 p0_5 p0_6 p0_7 p0_8 p0_9 p0_10 p0_11 k20 x407 b408 (IntKind.i64.wrap (x19 + 1))) else (if x19 = 32 then ((qSignNumber N zb zg zl zn p0_4 p0_5 p0_6 p0_7 p0_8 p0_9 p0_10 p0_11).bind fun (x419, b420) => pTold_L1 N zb zg zl zn p0_4 p0_5 p0_6 p0_7 p0_8 p0_9 p0_10 p0_11 k20 x419 b420 (IntKind.i64.wrap (x19 + 1))) else (if x19 = 33 then ((qHyphenDigit N zb zg zl zn p0_4 p0_5 p0_6 p0_7 p0_8 p0_9 p0_10 p0_11).bind fun (x431, b432) => pTold_L1 N zb zg zl zn p0_4 p0_5 p0_6 p0_7 p0_8 p0_9 p0_10 p0_11 k20 x431 b432 (IntKind.i64.wrap (x19 + 1))) else (if x19 = 34 then ((qNumberDigit N zb zg zl zn p0_4 p0_5 p0_6 p0_7 p0_8 p0_9 p0_10 p0_11).bind fun (x443, b444) => pTold_L1 N zb zg zl zn p0_4 p0_5 p0_6 p0_7 p0_8 p0_9 p0_10 p0_11 k20 x443 b444 (IntKind.i64.wrap (x19 + 1))) else (if x19 = 35 then ((qWithinSyllable N zb zg zl zn p0_4 p0_5 p0_6 p0_7 p0_8 p0_9 p0_10 p0_11).bind fun (x455, b456) => pTold_L1 N zb zg zl zn p0_4 p0_5 p0_6 p0_7 p0_8 p0_9 p0_10 p0_11 k20 x455 b456 (IntKind.i64.wrap (x19 + 1))) else (if x19 = 36 then ((qSignSyllable N zb zg zl zn p0_4 p0_5 p0_6 p0_7 p0_8 p0_9 p0_10 p0_11).bind fun (x467, b468) => pTold_L1 N zb zg zl zn p0_4 p0_5 p0_6 p0_7 p0_8 p0_9 p0_10 p0_11 k20 x467 b468 (IntKind.i64.wrap (x19 + 1))) else (if x19 = 37 then ((qBetweenLetters N zb zg zl zn p0_4 p0_5 p0_6 p0_7 p0_8 p0_9 p0_10 p0_11).bind fun (x479, b480) => pTold_L1 N zb zg zl zn p0_4 p0_5 p0_6 p0_7 p0_8 p0_9 p0_10 p0_11 k20 x479 b480 (IntKind.i64.wrap (x19 + 1))) else (if x19 = 38 then ((qSeparatorLetter N zb zg zl zn p0_4 p0_5 p0_6 p0_7 p0_8 p0_9 p0_10 p0_11).bind fun (x491, b492) => pTold_L1 N zb zg zl zn p0_4 p0_5 p0_6 p0_7 p0_8 p0_9 p0_10 p0_11 k20 x491 b492 (IntKind.i64.wrap (x19 + 1))) else (if x19 = 39 then ((qBesideBracket N zb zg zl zn p0_4 p0_5 p0_6 p0_7 p0_8 p0_9 p0_10 p0_11).bind fun (x503, b504) => pTold_L1 N zb zg zl zn p0_4 p0_5 p0_6 p0_7 p0_8 p0_9 p0_10 p0_11 k20 x503 b504 (IntKind.i64.wrap (x19 + 1))) else (if x19 = 40 then ((qWithinFlag N zb zg zl zn p0_4 p0_5 p0_6 p0_7 p0_8 p0_9 p0_10 p0_11).bind fun (x515, b516) => pTold_L1 N zb zg zl zn p0_4 p0_5 p0_6 p0_7 p0_8 p0_9 p0_10 p0_11 k20 x515 b516 (IntKind.i64.wrap (x19 + 1))) else (if x19 = 41 then ((qWithinPicture N zb zg zl zn p0_4 p0_5 p0_6 p0_7 p0_8 p0_9 p0_10 p0_11).bind fun (x527, b528) => pTold_L1 N zb zg zl zn p0_4 p0_5 p0_6 p0_7 p0_8 p0_9 p0_10 p0_11 k20 x527 b528 (IntKind.i64.wrap (x19 + 1))) else (if x19 = 42 then ((qElsewhere N zb zg zl zn p0_4 p0_5 p0_6 p0_7 p0_8 p0_9 p0_10 p0_11).bind fun (x539, b540) => pTold_L1 N zb zg zl zn p0_4 p0_5 p0_6 p0_7 p0_8 p0_9 p0_10 p0_11 k20 x539 b540 (IntKind.i64.wrap (x19 + 1))) else none))))))))))))))))))))))))))))))))))))))))))))
def pTold (N : Nat) (zb : List Int) (zg : List Int) (zl : Int) (zn : Int) (p0_4 : Int) (p0_5 : Int) (p0_6 : Int) (p0_7 : Int) (p0_8 : Int) (p0_9 : Bool) (p0_10 : Bool) (p0_11 : Bool) : Option (Int) :=
 ((pTold_L1 N zb zg zl zn p0_4 p0_5 p0_6 p0_7 p0_8 p0_9 p0_10 p0_11 N 0 false 0 : Option (Int)).bind fun x8 => some x8)
def pTold_R (zb : List Int) (zg : List Int) (zl : Int) (zn : Int) (p0_4 : Int) (p0_5 : Int) (p0_6 : Int) (p0_7 : Int) (p0_8 : Int) (p0_9 : Bool) (p0_10 : Bool) (p0_11 : Bool) (g0 : Nat) (zA : Option Addr) (zc : Nat) (A0_1 : Option Addr) (c0_1 : Nat) (g1 : Nat) (r : Int) (w0 : World) (v : Value) (w : World) : Prop := v = .int .u8 r ∧ St (foots [plE g0 zA zc A0_1 c0_1 zb zg zl zn p0_4 p0_5 p0_6 p0_7 p0_8 p0_9 p0_10 p0_11, boxE g1 rulC 35]) w0 w [plE g0 zA zc A0_1 c0_1 zb zg zl zn p0_4 p0_5 p0_6 p0_7 p0_8 p0_9 p0_10 p0_11, boxE g1 rulC 35]
theorem pTold_ok (N : Nat) (zb : List Int) (zg : List Int) (zl : Int) (zn : Int) (p0_4 : Int) (p0_5 : Int) (p0_6 : Int) (p0_7 : Int) (p0_8 : Int) (p0_9 : Bool) (p0_10 : Bool) (p0_11 : Bool) (g0 : Nat) (zA : Option Addr) (zc : Nat) (A0_1 : Option Addr) (c0_1 : Nat) (g1 : Nat) (r : Int) (hF : pTold N zb zg zl zn p0_4 p0_5 p0_6 p0_7 p0_8 p0_9 p0_10 p0_11 = some r) (w0 : World) (hv0_0 : Vw (foots [plE g0 zA zc A0_1 c0_1 zb zg zl zn p0_4 p0_5 p0_6 p0_7 p0_8 p0_9 p0_10 p0_11, boxE g1 rulC 35]) .i32 w0 zA zc zb) (hv0_1 : Vw (foots [plE g0 zA zc A0_1 c0_1 zb zg zl zn p0_4 p0_5 p0_6 p0_7 p0_8 p0_9 p0_10 p0_11, boxE g1 rulC 35]) .u8 w0 A0_1 c0_1 zg) (hl : St (foots [plE g0 zA zc A0_1 c0_1 zb zg zl zn p0_4 p0_5 p0_6 p0_7 p0_8 p0_9 p0_10 p0_11, boxE g1 rulC 35]) w0 w0 [plE g0 zA zc A0_1 c0_1 zb zg zl zn p0_4 p0_5 p0_6 p0_7 p0_8 p0_9 p0_10 p0_11, boxE g1 rulC 35]) :
  Calls Tryz.prog 15 #[.pointer (some ⟨g0, 0, none⟩), .pointer (some ⟨g1, 0, none⟩)] w0 fun e w => ∃ v, e = .returned v ∧ pTold_R zb zg zl zn p0_4 p0_5 p0_6 p0_7 p0_8 p0_9 p0_10 p0_11 g0 zA zc A0_1 c0_1 g1 r w0 v w := by
 have hS0 := hl
 unfold pTold at hF
 refine calls_of Tryz.func15 rfl ⟨((vP g0) :: (vP g1) :: un 21 ([])).toArray, []⟩ (by as_aux_lemma => kernel_rfl) (gx_seq (fun K1 hK2 => gx_region (gx_kA (.int .u8 0) w0 (gx_nil (gx_thenN (hK2 _ _ (gx_seq (fun K3 hK4 => ?_))))))))
 refine gx_region (gx_kA (.int .u8 0) w0 (gx_kA (.bool false) w0 (gx_nil (gx_thenN (hK4 _ _ ?_)))))
 obtain ⟨c9, hE10, hO11⟩ := bind_in hF
 refine gx_cut (fun a w => ∃ (x8 : Int), selfA (fun u7 => ⟨((vP g0) :: (vP g1) :: undef :: undef :: (.int .u8 0) :: (.int .u8 x8) :: dd u7 6 16 (undef :: [])).toArray, []⟩) a ∧ x8 = c9 ∧ St (foots [plE g0 zA zc A0_1 c0_1 zb zg zl zn p0_4 p0_5 p0_6 p0_7 p0_8 p0_9 p0_10 p0_11, boxE g1 rulC 35]) w0 w [plE g0 zA zc A0_1 c0_1 zb zg zl zn p0_4 p0_5 p0_6 p0_7 p0_8 p0_9 p0_10 p0_11, boxE g1 rulC 35]) ?_ ?_
 refine gx_seq (fun K12 hK13 => gx_region (gx_kA (i6 0) w0 (gx_nil (gx_thenN (hK13 _ _ (gx_block (gx_loop (fun k a w => ∃ (x17 : Int) (b18 : Bool) (x19 : Int), selfA (fun u16 => ⟨((vP g0) :: (vP g1) :: undef :: undef :: (.int .u8 0) :: (.int .u8 x17) :: (.bool b18) :: (i6 x19) :: dd u16 8 14 (undef :: [])).toArray, []⟩) a ∧ pTold_L1 N zb zg zl zn p0_4 p0_5 p0_6 p0_7 p0_8 p0_9 p0_10 p0_11 k x17 b18 x19 = some c9 ∧ St (foots [plE g0 zA zc A0_1 c0_1 zb zg zl zn p0_4 p0_5 p0_6 p0_7 p0_8 p0_9 p0_10 p0_11, boxE g1 rulC 35]) w0 w [plE g0 zA zc A0_1 c0_1 zb zg zl zn p0_4 p0_5 p0_6 p0_7 p0_8 p0_9 p0_10 p0_11, boxE g1 rulC 35]) N ?_ ?_)))))))
 exact ⟨0, false, 0, selfX, hE10, hS0⟩
 rintro k20 _ w14 ⟨x17, b18, x19, hq544, hL21, hS15⟩
 obtain ⟨u16, rfl⟩ := selfA_u hq544
 rcases k20 with _ | k20
 cases hL21
 first | rw [pTold_L1] at hL21 | unfold pTold_L1 at hL21
 refine gx_seq (fun K22 hK23 => gx_seq (fun K24 hK25 => gx_region (gx_kA (.bool b18) w14 ?_)))
 rcases b18 with _ | _
 try dsimp only at hL21
 refine gx_kA (.bool true) w14 (gx_nil (gx_thenN (hK25 _ _ (gx_yes (by as_aux_lemma => kernel_rfl) (gx_pass (gx_thenN (hK23 _ _ ?_)))))))
 refine gx_seq (fun K26 hK27 => gx_block (gx_region (gx_kA (vP g1) w14 (gx_kA (i6 x19) w14 (gx_kA (vP g1) w14 ?_)))))
 rcases if_in hL21 with ⟨h28, hF29⟩ | ⟨h28, hF29⟩
 have hz30 : x19 = ((Int.toNat x19 : Nat) : Int) := by rw [h28]; rfl
 have hi31 : Int.toNat x19 < 43 := by rw [h28]; decide
 have hj32 : (rulC : List Value)[Int.toNat x19]? = some (.func (.func 22) #[] #[]) := by rw [h28]; rfl
 refine gx_vA (.pointer (some ⟨g1, (Int.toNat x19), none⟩)) w14 (run_ixarr (E := 34) (m := 43) (k := .i64) (i := Int.toNat x19) rfl (by as_aux_lemma => kernel_rfl) (by as_aux_lemma => kernel_rfl) hz30 (by as_aux_lemma => kernel_rfl) (fun _ => by kernel_rfl) hi31) (gx_vA (.func (.func 22) #[] #[]) w14 (rl1 (hS15.box 1 rfl (Int.toNat x19) hj32)) (gx_kA (vP g0) w14 ?_))
 have hP33 : St _ _ w14 ([plE g0 zA zc A0_1 c0_1 zb zg zl zn p0_4 p0_5 p0_6 p0_7 p0_8 p0_9 p0_10 p0_11] ++ [boxE g1 rulC 35]) := hS15
 obtain ⟨⟨x35, b36⟩, hc34, hF29⟩ := bind_in hF29
 try dsimp only at hF29
 refine gx_cA _ (qBehindBreak_ok N zb zg zl zn p0_4 p0_5 p0_6 p0_7 p0_8 p0_9 p0_10 p0_11 g0 zA zc A0_1 c0_1 _ hc34 w14 (hP33.vwA hv0_0) (hP33.vwA hv0_1) hP33.part) ?_
 rintro _ w37 ⟨rfl, hT39⟩
 have hS38 : St _ _ w37 [boxE g1 rulC 35, plE g0 zA zc A0_1 c0_1 zb zg zl zn p0_4 p0_5 p0_6 p0_7 p0_8 p0_9 p0_10 p0_11] := hP33.lendN _ hT39
 refine gx_kA (.tuple #[.int .u8 x35, .bool b36]) w37 (gx_kA (.int .u8 x35) w37 (gx_kA (.bool b36) w37 (gx_kA (.int .u8 x35) w37 (gx_kA (.bool b36) w37 (gx_nil (gx_blkN (gx_thenN (hK27 _ _ (gx_region (gx_kA (i6 x19) w37 (gx_kA (i6 (iw (x19 + 1))) w37 (gx_kA (i6 (iw (x19 + 1))) w37 (gx_nil ?_)))))))))))))
 refine gx_thenN ?_
 exact ⟨k20, Nat.lt_succ_self k20, x35, b36, (iw (x19 + 1)), selfX, hF29, (hS38.pick [1, 0] rfl rfl)⟩
 rcases if_in hF29 with ⟨h40, hF41⟩ | ⟨h40, hF41⟩
 have hz42 : x19 = ((Int.toNat x19 : Nat) : Int) := by rw [h40]; rfl
 have hi43 : Int.toNat x19 < 43 := by rw [h40]; decide
 have hj44 : (rulC : List Value)[Int.toNat x19]? = some (.func (.func 23) #[] #[]) := by rw [h40]; rfl
 refine gx_vA (.pointer (some ⟨g1, (Int.toNat x19), none⟩)) w14 (run_ixarr (E := 34) (m := 43) (k := .i64) (i := Int.toNat x19) rfl (by as_aux_lemma => kernel_rfl) (by as_aux_lemma => kernel_rfl) hz42 (by as_aux_lemma => kernel_rfl) (fun _ => by kernel_rfl) hi43) (gx_vA (.func (.func 23) #[] #[]) w14 (rl1 (hS15.box 1 rfl (Int.toNat x19) hj44)) (gx_kA (vP g0) w14 ?_))
 have hP45 : St _ _ w14 ([plE g0 zA zc A0_1 c0_1 zb zg zl zn p0_4 p0_5 p0_6 p0_7 p0_8 p0_9 p0_10 p0_11] ++ [boxE g1 rulC 35]) := hS15
 obtain ⟨⟨x47, b48⟩, hc46, hF41⟩ := bind_in hF41
 try dsimp only at hF41
 refine gx_cA _ (qWithinReturn_ok N zb zg zl zn p0_4 p0_5 p0_6 p0_7 p0_8 p0_9 p0_10 p0_11 g0 zA zc A0_1 c0_1 _ hc46 w14 (hP45.vwA hv0_0) (hP45.vwA hv0_1) hP45.part) ?_
 rintro _ w49 ⟨rfl, hT51⟩
 have hS50 : St _ _ w49 [boxE g1 rulC 35, plE g0 zA zc A0_1 c0_1 zb zg zl zn p0_4 p0_5 p0_6 p0_7 p0_8 p0_9 p0_10 p0_11] := hP45.lendN _ hT51
 refine gx_kA (.tuple #[.int .u8 x47, .bool b48]) w49 (gx_kA (.int .u8 x47) w49 (gx_kA (.bool b48) w49 (gx_kA (.int .u8 x47) w49 (gx_kA (.bool b48) w49 (gx_nil (gx_blkN (gx_thenN (hK27 _ _ (gx_region (gx_kA (i6 x19) w49 (gx_kA (i6 (iw (x19 + 1))) w49 (gx_kA (i6 (iw (x19 + 1))) w49 (gx_nil ?_)))))))))))))
 refine gx_thenN ?_
 exact ⟨k20, Nat.lt_succ_self k20, x47, b48, (iw (x19 + 1)), selfX, hF41, (hS50.pick [1, 0] rfl rfl)⟩
 rcases if_in hF41 with ⟨h52, hF53⟩ | ⟨h52, hF53⟩
 have hz54 : x19 = ((Int.toNat x19 : Nat) : Int) := by rw [h52]; rfl
 have hi55 : Int.toNat x19 < 43 := by rw [h52]; decide
 have hj56 : (rulC : List Value)[Int.toNat x19]? = some (.func (.func 24) #[] #[]) := by rw [h52]; rfl
 refine gx_vA (.pointer (some ⟨g1, (Int.toNat x19), none⟩)) w14 (run_ixarr (E := 34) (m := 43) (k := .i64) (i := Int.toNat x19) rfl (by as_aux_lemma => kernel_rfl) (by as_aux_lemma => kernel_rfl) hz54 (by as_aux_lemma => kernel_rfl) (fun _ => by kernel_rfl) hi55) (gx_vA (.func (.func 24) #[] #[]) w14 (rl1 (hS15.box 1 rfl (Int.toNat x19) hj56)) (gx_kA (vP g0) w14 ?_))
 have hP57 : St _ _ w14 ([plE g0 zA zc A0_1 c0_1 zb zg zl zn p0_4 p0_5 p0_6 p0_7 p0_8 p0_9 p0_10 p0_11] ++ [boxE g1 rulC 35]) := hS15
 obtain ⟨⟨x59, b60⟩, hc58, hF53⟩ := bind_in hF53
 try dsimp only at hF53
 refine gx_cA _ (qBehindLine_ok N zb zg zl zn p0_4 p0_5 p0_6 p0_7 p0_8 p0_9 p0_10 p0_11 g0 zA zc A0_1 c0_1 _ hc58 w14 (hP57.vwA hv0_0) (hP57.vwA hv0_1) hP57.part) ?_
 rintro _ w61 ⟨rfl, hT63⟩
 have hS62 : St _ _ w61 [boxE g1 rulC 35, plE g0 zA zc A0_1 c0_1 zb zg zl zn p0_4 p0_5 p0_6 p0_7 p0_8 p0_9 p0_10 p0_11] := hP57.lendN _ hT63
 refine gx_kA (.tuple #[.int .u8 x59, .bool b60]) w61 (gx_kA (.int .u8 x59) w61 (gx_kA (.bool b60) w61 (gx_kA (.int .u8 x59) w61 (gx_kA (.bool b60) w61 (gx_nil (gx_blkN (gx_thenN (hK27 _ _ (gx_region (gx_kA (i6 x19) w61 (gx_kA (i6 (iw (x19 + 1))) w61 (gx_kA (i6 (iw (x19 + 1))) w61 (gx_nil ?_)))))))))))))
 refine gx_thenN ?_
 exact ⟨k20, Nat.lt_succ_self k20, x59, b60, (iw (x19 + 1)), selfX, hF53, (hS62.pick [1, 0] rfl rfl)⟩
 rcases if_in hF53 with ⟨h64, hF65⟩ | ⟨h64, hF65⟩
 have hz66 : x19 = ((Int.toNat x19 : Nat) : Int) := by rw [h64]; rfl
 have hi67 : Int.toNat x19 < 43 := by rw [h64]; decide
 have hj68 : (rulC : List Value)[Int.toNat x19]? = some (.func (.func 25) #[] #[]) := by rw [h64]; rfl
 refine gx_vA (.pointer (some ⟨g1, (Int.toNat x19), none⟩)) w14 (run_ixarr (E := 34) (m := 43) (k := .i64) (i := Int.toNat x19) rfl (by as_aux_lemma => kernel_rfl) (by as_aux_lemma => kernel_rfl) hz66 (by as_aux_lemma => kernel_rfl) (fun _ => by kernel_rfl) hi67) (gx_vA (.func (.func 25) #[] #[]) w14 (rl1 (hS15.box 1 rfl (Int.toNat x19) hj68)) (gx_kA (vP g0) w14 ?_))
 have hP69 : St _ _ w14 ([plE g0 zA zc A0_1 c0_1 zb zg zl zn p0_4 p0_5 p0_6 p0_7 p0_8 p0_9 p0_10 p0_11] ++ [boxE g1 rulC 35]) := hS15
 obtain ⟨⟨x71, b72⟩, hc70, hF65⟩ := bind_in hF65
 try dsimp only at hF65
 refine gx_cA _ (qAheadOfSpace_ok N zb zg zl zn p0_4 p0_5 p0_6 p0_7 p0_8 p0_9 p0_10 p0_11 g0 zA zc A0_1 c0_1 _ hc70 w14 (hP69.vwA hv0_0) (hP69.vwA hv0_1) hP69.part) ?_
 rintro _ w73 ⟨rfl, hT75⟩
 have hS74 : St _ _ w73 [boxE g1 rulC 35, plE g0 zA zc A0_1 c0_1 zb zg zl zn p0_4 p0_5 p0_6 p0_7 p0_8 p0_9 p0_10 p0_11] := hP69.lendN _ hT75
 refine gx_kA (.tuple #[.int .u8 x71, .bool b72]) w73 (gx_kA (.int .u8 x71) w73 (gx_kA (.bool b72) w73 (gx_kA (.int .u8 x71) w73 (gx_kA (.bool b72) w73 (gx_nil (gx_blkN (gx_thenN (hK27 _ _ (gx_region (gx_kA (i6 x19) w73 (gx_kA (i6 (iw (x19 + 1))) w73 (gx_kA (i6 (iw (x19 + 1))) w73 (gx_nil ?_)))))))))))))
 refine gx_thenN ?_
 exact ⟨k20, Nat.lt_succ_self k20, x71, b72, (iw (x19 + 1)), selfX, hF65, (hS74.pick [1, 0] rfl rfl)⟩
 rcases if_in hF65 with ⟨h76, hF77⟩ | ⟨h76, hF77⟩
 have hz78 : x19 = ((Int.toNat x19 : Nat) : Int) := by rw [h76]; rfl
 have hi79 : Int.toNat x19 < 43 := by rw [h76]; decide
 have hj80 : (rulC : List Value)[Int.toNat x19]? = some (.func (.func 26) #[] #[]) := by rw [h76]; rfl
 refine gx_vA (.pointer (some ⟨g1, (Int.toNat x19), none⟩)) w14 (run_ixarr (E := 34) (m := 43) (k := .i64) (i := Int.toNat x19) rfl (by as_aux_lemma => kernel_rfl) (by as_aux_lemma => kernel_rfl) hz78 (by as_aux_lemma => kernel_rfl) (fun _ => by kernel_rfl) hi79) (gx_vA (.func (.func 26) #[] #[]) w14 (rl1 (hS15.box 1 rfl (Int.toNat x19) hj80)) (gx_kA (vP g0) w14 ?_))
 have hP81 : St _ _ w14 ([plE g0 zA zc A0_1 c0_1 zb zg zl zn p0_4 p0_5 p0_6 p0_7 p0_8 p0_9 p0_10 p0_11] ++ [boxE g1 rulC 35]) := hS15
 obtain ⟨⟨x83, b84⟩, hc82, hF77⟩ := bind_in hF77
 try dsimp only at hF77
 refine gx_cA _ (qBehindZeroSpace_ok N zb zg zl zn p0_4 p0_5 p0_6 p0_7 p0_8 p0_9 p0_10 p0_11 g0 zA zc A0_1 c0_1 _ hc82 w14 (hP81.vwA hv0_0) (hP81.vwA hv0_1) hP81.part) ?_
 rintro _ w85 ⟨rfl, hT87⟩
 have hS86 : St _ _ w85 [boxE g1 rulC 35, plE g0 zA zc A0_1 c0_1 zb zg zl zn p0_4 p0_5 p0_6 p0_7 p0_8 p0_9 p0_10 p0_11] := hP81.lendN _ hT87
 refine gx_kA (.tuple #[.int .u8 x83, .bool b84]) w85 (gx_kA (.int .u8 x83) w85 (gx_kA (.bool b84) w85 (gx_kA (.int .u8 x83) w85 (gx_kA (.bool b84) w85 (gx_nil (gx_blkN (gx_thenN (hK27 _ _ (gx_region (gx_kA (i6 x19) w85 (gx_kA (i6 (iw (x19 + 1))) w85 (gx_kA (i6 (iw (x19 + 1))) w85 (gx_nil ?_)))))))))))))
 refine gx_thenN ?_
 exact ⟨k20, Nat.lt_succ_self k20, x83, b84, (iw (x19 + 1)), selfX, hF77, (hS86.pick [1, 0] rfl rfl)⟩
 rcases if_in hF77 with ⟨h88, hF89⟩ | ⟨h88, hF89⟩
 have hz90 : x19 = ((Int.toNat x19 : Nat) : Int) := by rw [h88]; rfl
 have hi91 : Int.toNat x19 < 43 := by rw [h88]; decide
 have hj92 : (rulC : List Value)[Int.toNat x19]? = some (.func (.func 27) #[] #[]) := by rw [h88]; rfl
 refine gx_vA (.pointer (some ⟨g1, (Int.toNat x19), none⟩)) w14 (run_ixarr (E := 34) (m := 43) (k := .i64) (i := Int.toNat x19) rfl (by as_aux_lemma => kernel_rfl) (by as_aux_lemma => kernel_rfl) hz90 (by as_aux_lemma => kernel_rfl) (fun _ => by kernel_rfl) hi91) (gx_vA (.func (.func 27) #[] #[]) w14 (rl1 (hS15.box 1 rfl (Int.toNat x19) hj92)) (gx_kA (vP g0) w14 ?_))
 have hP93 : St _ _ w14 ([plE g0 zA zc A0_1 c0_1 zb zg zl zn p0_4 p0_5 p0_6 p0_7 p0_8 p0_9 p0_10 p0_11] ++ [boxE g1 rulC 35]) := hS15
 obtain ⟨⟨x95, b96⟩, hc94, hF89⟩ := bind_in hF89
 try dsimp only at hF89
 refine gx_cA _ (qBehindJoiner_ok N zb zg zl zn p0_4 p0_5 p0_6 p0_7 p0_8 p0_9 p0_10 p0_11 g0 zA zc A0_1 c0_1 _ hc94 w14 (hP93.vwA hv0_0) (hP93.vwA hv0_1) hP93.part) ?_
 rintro _ w97 ⟨rfl, hT99⟩
 have hS98 : St _ _ w97 [boxE g1 rulC 35, plE g0 zA zc A0_1 c0_1 zb zg zl zn p0_4 p0_5 p0_6 p0_7 p0_8 p0_9 p0_10 p0_11] := hP93.lendN _ hT99
 refine gx_kA (.tuple #[.int .u8 x95, .bool b96]) w97 (gx_kA (.int .u8 x95) w97 (gx_kA (.bool b96) w97 (gx_kA (.int .u8 x95) w97 (gx_kA (.bool b96) w97 (gx_nil (gx_blkN (gx_thenN (hK27 _ _ (gx_region (gx_kA (i6 x19) w97 (gx_kA (i6 (iw (x19 + 1))) w97 (gx_kA (i6 (iw (x19 + 1))) w97 (gx_nil ?_)))))))))))))
 refine gx_thenN ?_
 exact ⟨k20, Nat.lt_succ_self k20, x95, b96, (iw (x19 + 1)), selfX, hF89, (hS98.pick [1, 0] rfl rfl)⟩
 rcases if_in hF89 with ⟨h100, hF101⟩ | ⟨h100, hF101⟩
 have hz102 : x19 = ((Int.toNat x19 : Nat) : Int) := by rw [h100]; rfl
 have hi103 : Int.toNat x19 < 43 := by rw [h100]; decide
 have hj104 : (rulC : List Value)[Int.toNat x19]? = some (.func (.func 28) #[] #[]) := by rw [h100]; rfl
 refine gx_vA (.pointer (some ⟨g1, (Int.toNat x19), none⟩)) w14 (run_ixarr (E := 34) (m := 43) (k := .i64) (i := Int.toNat x19) rfl (by as_aux_lemma => kernel_rfl) (by as_aux_lemma => kernel_rfl) hz102 (by as_aux_lemma => kernel_rfl) (fun _ => by kernel_rfl) hi103) (gx_vA (.func (.func 28) #[] #[]) w14 (rl1 (hS15.box 1 rfl (Int.toNat x19) hj104)) (gx_kA (vP g0) w14 ?_))
 have hP105 : St _ _ w14 ([plE g0 zA zc A0_1 c0_1 zb zg zl zn p0_4 p0_5 p0_6 p0_7 p0_8 p0_9 p0_10 p0_11] ++ [boxE g1 rulC 35]) := hS15
 obtain ⟨⟨x107, b108⟩, hc106, hF101⟩ := bind_in hF101
 try dsimp only at hF101
 refine gx_cA _ (qBesideWordJoiner_ok N zb zg zl zn p0_4 p0_5 p0_6 p0_7 p0_8 p0_9 p0_10 p0_11 g0 zA zc A0_1 c0_1 _ hc106 w14 (hP105.vwA hv0_0) (hP105.vwA hv0_1) hP105.part) ?_
 rintro _ w109 ⟨rfl, hT111⟩
 have hS110 : St _ _ w109 [boxE g1 rulC 35, plE g0 zA zc A0_1 c0_1 zb zg zl zn p0_4 p0_5 p0_6 p0_7 p0_8 p0_9 p0_10 p0_11] := hP105.lendN _ hT111
 refine gx_kA (.tuple #[.int .u8 x107, .bool b108]) w109 (gx_kA (.int .u8 x107) w109 (gx_kA (.bool b108) w109 (gx_kA (.int .u8 x107) w109 (gx_kA (.bool b108) w109 (gx_nil (gx_blkN (gx_thenN (hK27 _ _ (gx_region (gx_kA (i6 x19) w109 (gx_kA (i6 (iw (x19 + 1))) w109 (gx_kA (i6 (iw (x19 + 1))) w109 (gx_nil ?_)))))))))))))
 refine gx_thenN ?_
 exact ⟨k20, Nat.lt_succ_self k20, x107, b108, (iw (x19 + 1)), selfX, hF101, (hS110.pick [1, 0] rfl rfl)⟩
 rcases if_in hF101 with ⟨h112, hF113⟩ | ⟨h112, hF113⟩
 have hz114 : x19 = ((Int.toNat x19 : Nat) : Int) := by rw [h112]; rfl
 have hi115 : Int.toNat x19 < 43 := by rw [h112]; decide
 have hj116 : (rulC : List Value)[Int.toNat x19]? = some (.func (.func 29) #[] #[]) := by rw [h112]; rfl
 refine gx_vA (.pointer (some ⟨g1, (Int.toNat x19), none⟩)) w14 (run_ixarr (E := 34) (m := 43) (k := .i64) (i := Int.toNat x19) rfl (by as_aux_lemma => kernel_rfl) (by as_aux_lemma => kernel_rfl) hz114 (by as_aux_lemma => kernel_rfl) (fun _ => by kernel_rfl) hi115) (gx_vA (.func (.func 29) #[] #[]) w14 (rl1 (hS15.box 1 rfl (Int.toNat x19) hj116)) (gx_kA (vP g0) w14 ?_))
 have hP117 : St _ _ w14 ([plE g0 zA zc A0_1 c0_1 zb zg zl zn p0_4 p0_5 p0_6 p0_7 p0_8 p0_9 p0_10 p0_11] ++ [boxE g1 rulC 35]) := hS15
 obtain ⟨⟨x119, b120⟩, hc118, hF113⟩ := bind_in hF113
 try dsimp only at hF113
 refine gx_cA _ (qBehindGlue_ok N zb zg zl zn p0_4 p0_5 p0_6 p0_7 p0_8 p0_9 p0_10 p0_11 g0 zA zc A0_1 c0_1 _ hc118 w14 (hP117.vwA hv0_0) (hP117.vwA hv0_1) hP117.part) ?_
 rintro _ w121 ⟨rfl, hT123⟩
 have hS122 : St _ _ w121 [boxE g1 rulC 35, plE g0 zA zc A0_1 c0_1 zb zg zl zn p0_4 p0_5 p0_6 p0_7 p0_8 p0_9 p0_10 p0_11] := hP117.lendN _ hT123
 refine gx_kA (.tuple #[.int .u8 x119, .bool b120]) w121 (gx_kA (.int .u8 x119) w121 (gx_kA (.bool b120) w121 (gx_kA (.int .u8 x119) w121 (gx_kA (.bool b120) w121 (gx_nil (gx_blkN (gx_thenN (hK27 _ _ (gx_region (gx_kA (i6 x19) w121 (gx_kA (i6 (iw (x19 + 1))) w121 (gx_kA (i6 (iw (x19 + 1))) w121 (gx_nil ?_)))))))))))))
 refine gx_thenN ?_
 exact ⟨k20, Nat.lt_succ_self k20, x119, b120, (iw (x19 + 1)), selfX, hF113, (hS122.pick [1, 0] rfl rfl)⟩
 rcases if_in hF113 with ⟨h124, hF125⟩ | ⟨h124, hF125⟩
 have hz126 : x19 = ((Int.toNat x19 : Nat) : Int) := by rw [h124]; rfl
 have hi127 : Int.toNat x19 < 43 := by rw [h124]; decide
 have hj128 : (rulC : List Value)[Int.toNat x19]? = some (.func (.func 30) #[] #[]) := by rw [h124]; rfl
 refine gx_vA (.pointer (some ⟨g1, (Int.toNat x19), none⟩)) w14 (run_ixarr (E := 34) (m := 43) (k := .i64) (i := Int.toNat x19) rfl (by as_aux_lemma => kernel_rfl) (by as_aux_lemma => kernel_rfl) hz126 (by as_aux_lemma => kernel_rfl) (fun _ => by kernel_rfl) hi127) (gx_vA (.func (.func 30) #[] #[]) w14 (rl1 (hS15.box 1 rfl (Int.toNat x19) hj128)) (gx_kA (vP g0) w14 ?_))
 have hP129 : St _ _ w14 ([plE g0 zA zc A0_1 c0_1 zb zg zl zn p0_4 p0_5 p0_6 p0_7 p0_8 p0_9 p0_10 p0_11] ++ [boxE g1 rulC 35]) := hS15
 obtain ⟨⟨x131, b132⟩, hc130, hF125⟩ := bind_in hF125
 try dsimp only at hF125
 refine gx_cA _ (qAheadOfGlue_ok N zb zg zl zn p0_4 p0_5 p0_6 p0_7 p0_8 p0_9 p0_10 p0_11 g0 zA zc A0_1 c0_1 _ hc130 w14 (hP129.vwA hv0_0) (hP129.vwA hv0_1) hP129.part) ?_
 rintro _ w133 ⟨rfl, hT135⟩
 have hS134 : St _ _ w133 [boxE g1 rulC 35, plE g0 zA zc A0_1 c0_1 zb zg zl zn p0_4 p0_5 p0_6 p0_7 p0_8 p0_9 p0_10 p0_11] := hP129.lendN _ hT135
 refine gx_kA (.tuple #[.int .u8 x131, .bool b132]) w133 (gx_kA (.int .u8 x131) w133 (gx_kA (.bool b132) w133 (gx_kA (.int .u8 x131) w133 (gx_kA (.bool b132) w133 (gx_nil (gx_blkN (gx_thenN (hK27 _ _ (gx_region (gx_kA (i6 x19) w133 (gx_kA (i6 (iw (x19 + 1))) w133 (gx_kA (i6 (iw (x19 + 1))) w133 (gx_nil ?_)))))))))))))
 refine gx_thenN ?_
 exact ⟨k20, Nat.lt_succ_self k20, x131, b132, (iw (x19 + 1)), selfX, hF125, (hS134.pick [1, 0] rfl rfl)⟩
 rcases if_in hF125 with ⟨h136, hF137⟩ | ⟨h136, hF137⟩
 have hz138 : x19 = ((Int.toNat x19 : Nat) : Int) := by rw [h136]; rfl
 have hi139 : Int.toNat x19 < 43 := by rw [h136]; decide
 have hj140 : (rulC : List Value)[Int.toNat x19]? = some (.func (.func 31) #[] #[]) := by rw [h136]; rfl
 refine gx_vA (.pointer (some ⟨g1, (Int.toNat x19), none⟩)) w14 (run_ixarr (E := 34) (m := 43) (k := .i64) (i := Int.toNat x19) rfl (by as_aux_lemma => kernel_rfl) (by as_aux_lemma => kernel_rfl) hz138 (by as_aux_lemma => kernel_rfl) (fun _ => by kernel_rfl) hi139) (gx_vA (.func (.func 31) #[] #[]) w14 (rl1 (hS15.box 1 rfl (Int.toNat x19) hj140)) (gx_kA (vP g0) w14 ?_))
 have hP141 : St _ _ w14 ([plE g0 zA zc A0_1 c0_1 zb zg zl zn p0_4 p0_5 p0_6 p0_7 p0_8 p0_9 p0_10 p0_11] ++ [boxE g1 rulC 35]) := hS15
 obtain ⟨⟨x143, b144⟩, hc142, hF137⟩ := bind_in hF137
 try dsimp only at hF137
 refine gx_cA _ (qAheadOfClosing_ok N zb zg zl zn p0_4 p0_5 p0_6 p0_7 p0_8 p0_9 p0_10 p0_11 g0 zA zc A0_1 c0_1 _ hc142 w14 (hP141.vwA hv0_0) (hP141.vwA hv0_1) hP141.part) ?_
 rintro _ w145 ⟨rfl, hT147⟩
 have hS146 : St _ _ w145 [boxE g1 rulC 35, plE g0 zA zc A0_1 c0_1 zb zg zl zn p0_4 p0_5 p0_6 p0_7 p0_8 p0_9 p0_10 p0_11] := hP141.lendN _ hT147
 refine gx_kA (.tuple #[.int .u8 x143, .bool b144]) w145 (gx_kA (.int .u8 x143) w145 (gx_kA (.bool b144) w145 (gx_kA (.int .u8 x143) w145 (gx_kA (.bool b144) w145 (gx_nil (gx_blkN (gx_thenN (hK27 _ _ (gx_region (gx_kA (i6 x19) w145 (gx_kA (i6 (iw (x19 + 1))) w145 (gx_kA (i6 (iw (x19 + 1))) w145 (gx_nil ?_)))))))))))))
 refine gx_thenN ?_
 exact ⟨k20, Nat.lt_succ_self k20, x143, b144, (iw (x19 + 1)), selfX, hF137, (hS146.pick [1, 0] rfl rfl)⟩
 rcases if_in hF137 with ⟨h148, hF149⟩ | ⟨h148, hF149⟩
 have hz150 : x19 = ((Int.toNat x19 : Nat) : Int) := by rw [h148]; rfl
 have hi151 : Int.toNat x19 < 43 := by rw [h148]; decide
 have hj152 : (rulC : List Value)[Int.toNat x19]? = some (.func (.func 32) #[] #[]) := by rw [h148]; rfl
 refine gx_vA (.pointer (some ⟨g1, (Int.toNat x19), none⟩)) w14 (run_ixarr (E := 34) (m := 43) (k := .i64) (i := Int.toNat x19) rfl (by as_aux_lemma => kernel_rfl) (by as_aux_lemma => kernel_rfl) hz150 (by as_aux_lemma => kernel_rfl) (fun _ => by kernel_rfl) hi151) (gx_vA (.func (.func 32) #[] #[]) w14 (rl1 (hS15.box 1 rfl (Int.toNat x19) hj152)) (gx_kA (vP g0) w14 ?_))
 have hP153 : St _ _ w14 ([plE g0 zA zc A0_1 c0_1 zb zg zl zn p0_4 p0_5 p0_6 p0_7 p0_8 p0_9 p0_10 p0_11] ++ [boxE g1 rulC 35]) := hS15
 obtain ⟨⟨x155, b156⟩, hc154, hF149⟩ := bind_in hF149
 try dsimp only at hF149
 refine gx_cA _ (qBehindOpening_ok N zb zg zl zn p0_4 p0_5 p0_6 p0_7 p0_8 p0_9 p0_10 p0_11 g0 zA zc A0_1 c0_1 _ hc154 w14 (hP153.vwA hv0_0) (hP153.vwA hv0_1) hP153.part) ?_
 rintro _ w157 ⟨rfl, hT159⟩
 have hS158 : St _ _ w157 [boxE g1 rulC 35, plE g0 zA zc A0_1 c0_1 zb zg zl zn p0_4 p0_5 p0_6 p0_7 p0_8 p0_9 p0_10 p0_11] := hP153.lendN _ hT159
 refine gx_kA (.tuple #[.int .u8 x155, .bool b156]) w157 (gx_kA (.int .u8 x155) w157 (gx_kA (.bool b156) w157 (gx_kA (.int .u8 x155) w157 (gx_kA (.bool b156) w157 (gx_nil (gx_blkN (gx_thenN (hK27 _ _ (gx_region (gx_kA (i6 x19) w157 (gx_kA (i6 (iw (x19 + 1))) w157 (gx_kA (i6 (iw (x19 + 1))) w157 (gx_nil ?_)))))))))))))
 refine gx_thenN ?_
 exact ⟨k20, Nat.lt_succ_self k20, x155, b156, (iw (x19 + 1)), selfX, hF149, (hS158.pick [1, 0] rfl rfl)⟩
 rcases if_in hF149 with ⟨h160, hF161⟩ | ⟨h160, hF161⟩
 have hz162 : x19 = ((Int.toNat x19 : Nat) : Int) := by rw [h160]; rfl
 have hi163 : Int.toNat x19 < 43 := by rw [h160]; decide
 have hj164 : (rulC : List Value)[Int.toNat x19]? = some (.func (.func 33) #[] #[]) := by rw [h160]; rfl
 refine gx_vA (.pointer (some ⟨g1, (Int.toNat x19), none⟩)) w14 (run_ixarr (E := 34) (m := 43) (k := .i64) (i := Int.toNat x19) rfl (by as_aux_lemma => kernel_rfl) (by as_aux_lemma => kernel_rfl) hz162 (by as_aux_lemma => kernel_rfl) (fun _ => by kernel_rfl) hi163) (gx_vA (.func (.func 33) #[] #[]) w14 (rl1 (hS15.box 1 rfl (Int.toNat x19) hj164)) (gx_kA (vP g0) w14 ?_))
 have hP165 : St _ _ w14 ([plE g0 zA zc A0_1 c0_1 zb zg zl zn p0_4 p0_5 p0_6 p0_7 p0_8 p0_9 p0_10 p0_11] ++ [boxE g1 rulC 35]) := hS15
 obtain ⟨⟨x167, b168⟩, hc166, hF161⟩ := bind_in hF161
 try dsimp only at hF161
 refine gx_cA _ (qBehindOpeningQuote_ok N zb zg zl zn p0_4 p0_5 p0_6 p0_7 p0_8 p0_9 p0_10 p0_11 g0 zA zc A0_1 c0_1 _ hc166 w14 (hP165.vwA hv0_0) (hP165.vwA hv0_1) hP165.part) ?_
 rintro _ w169 ⟨rfl, hT171⟩
 have hS170 : St _ _ w169 [boxE g1 rulC 35, plE g0 zA zc A0_1 c0_1 zb zg zl zn p0_4 p0_5 p0_6 p0_7 p0_8 p0_9 p0_10 p0_11] := hP165.lendN _ hT171
 refine gx_kA (.tuple #[.int .u8 x167, .bool b168]) w169 (gx_kA (.int .u8 x167) w169 (gx_kA (.bool b168) w169 (gx_kA (.int .u8 x167) w169 (gx_kA (.bool b168) w169 (gx_nil (gx_blkN (gx_thenN (hK27 _ _ (gx_region (gx_kA (i6 x19) w169 (gx_kA (i6 (iw (x19 + 1))) w169 (gx_kA (i6 (iw (x19 + 1))) w169 (gx_nil ?_)))))))))))))
 refine gx_thenN ?_
 exact ⟨k20, Nat.lt_succ_self k20, x167, b168, (iw (x19 + 1)), selfX, hF161, (hS170.pick [1, 0] rfl rfl)⟩
 rcases if_in hF161 with ⟨h172, hF173⟩ | ⟨h172, hF173⟩
 have hz174 : x19 = ((Int.toNat x19 : Nat) : Int) := by rw [h172]; rfl
 have hi175 : Int.toNat x19 < 43 := by rw [h172]; decide
 have hj176 : (rulC : List Value)[Int.toNat x19]? = some (.func (.func 34) #[] #[]) := by rw [h172]; rfl
 refine gx_vA (.pointer (some ⟨g1, (Int.toNat x19), none⟩)) w14 (run_ixarr (E := 34) (m := 43) (k := .i64) (i := Int.toNat x19) rfl (by as_aux_lemma => kernel_rfl) (by as_aux_lemma => kernel_rfl) hz174 (by as_aux_lemma => kernel_rfl) (fun _ => by kernel_rfl) hi175) (gx_vA (.func (.func 34) #[] #[]) w14 (rl1 (hS15.box 1 rfl (Int.toNat x19) hj176)) (gx_kA (vP g0) w14 ?_))
 have hP177 : St _ _ w14 ([plE g0 zA zc A0_1 c0_1 zb zg zl zn p0_4 p0_5 p0_6 p0_7 p0_8 p0_9 p0_10 p0_11] ++ [boxE g1 rulC 35]) := hS15
 obtain ⟨⟨x179, b180⟩, hc178, hF173⟩ := bind_in hF173
 try dsimp only at hF173
 refine gx_cA _ (qAheadOfClosingQuote_ok N zb zg zl zn p0_4 p0_5 p0_6 p0_7 p0_8 p0_9 p0_10 p0_11 g0 zA zc A0_1 c0_1 _ hc178 w14 (hP177.vwA hv0_0) (hP177.vwA hv0_1) hP177.part) ?_
 rintro _ w181 ⟨rfl, hT183⟩
 have hS182 : St _ _ w181 [boxE g1 rulC 35, plE g0 zA zc A0_1 c0_1 zb zg zl zn p0_4 p0_5 p0_6 p0_7 p0_8 p0_9 p0_10 p0_11] := hP177.lendN _ hT183
 refine gx_kA (.tuple #[.int .u8 x179, .bool b180]) w181 (gx_kA (.int .u8 x179) w181 (gx_kA (.bool b180) w181 (gx_kA (.int .u8 x179) w181 (gx_kA (.bool b180) w181 (gx_nil (gx_blkN (gx_thenN (hK27 _ _ (gx_region (gx_kA (i6 x19) w181 (gx_kA (i6 (iw (x19 + 1))) w181 (gx_kA (i6 (iw (x19 + 1))) w181 (gx_nil ?_)))))))))))))
 refine gx_thenN ?_
 exact ⟨k20, Nat.lt_succ_self k20, x179, b180, (iw (x19 + 1)), selfX, hF173, (hS182.pick [1, 0] rfl rfl)⟩
 rcases if_in hF173 with ⟨h184, hF185⟩ | ⟨h184, hF185⟩
 have hz186 : x19 = ((Int.toNat x19 : Nat) : Int) := by rw [h184]; rfl
 have hi187 : Int.toNat x19 < 43 := by rw [h184]; decide
 have hj188 : (rulC : List Value)[Int.toNat x19]? = some (.func (.func 35) #[] #[]) := by rw [h184]; rfl
 refine gx_vA (.pointer (some ⟨g1, (Int.toNat x19), none⟩)) w14 (run_ixarr (E := 34) (m := 43) (k := .i64) (i := Int.toNat x19) rfl (by as_aux_lemma => kernel_rfl) (by as_aux_lemma => kernel_rfl) hz186 (by as_aux_lemma => kernel_rfl) (fun _ => by kernel_rfl) hi187) (gx_vA (.func (.func 35) #[] #[]) w14 (rl1 (hS15.box 1 rfl (Int.toNat x19) hj188)) (gx_kA (vP g0) w14 ?_))
 have hP189 : St _ _ w14 ([plE g0 zA zc A0_1 c0_1 zb zg zl zn p0_4 p0_5 p0_6 p0_7 p0_8 p0_9 p0_10 p0_11] ++ [boxE g1 rulC 35]) := hS15
 obtain ⟨⟨x191, b192⟩, hc190, hF185⟩ := bind_in hF185
 try dsimp only at hF185
 refine gx_cA _ (qAheadOfDecimals_ok N zb zg zl zn p0_4 p0_5 p0_6 p0_7 p0_8 p0_9 p0_10 p0_11 g0 zA zc A0_1 c0_1 _ hc190 w14 (hP189.vwA hv0_0) (hP189.vwA hv0_1) hP189.part) ?_
 rintro _ w193 ⟨rfl, hT195⟩
 have hS194 : St _ _ w193 [boxE g1 rulC 35, plE g0 zA zc A0_1 c0_1 zb zg zl zn p0_4 p0_5 p0_6 p0_7 p0_8 p0_9 p0_10 p0_11] := hP189.lendN _ hT195
 refine gx_kA (.tuple #[.int .u8 x191, .bool b192]) w193 (gx_kA (.int .u8 x191) w193 (gx_kA (.bool b192) w193 (gx_kA (.int .u8 x191) w193 (gx_kA (.bool b192) w193 (gx_nil (gx_blkN (gx_thenN (hK27 _ _ (gx_region (gx_kA (i6 x19) w193 (gx_kA (i6 (iw (x19 + 1))) w193 (gx_kA (i6 (iw (x19 + 1))) w193 (gx_nil ?_)))))))))))))
 refine gx_thenN ?_
 exact ⟨k20, Nat.lt_succ_self k20, x191, b192, (iw (x19 + 1)), selfX, hF185, (hS194.pick [1, 0] rfl rfl)⟩
 rcases if_in hF185 with ⟨h196, hF197⟩ | ⟨h196, hF197⟩
 have hz198 : x19 = ((Int.toNat x19 : Nat) : Int) := by rw [h196]; rfl
 have hi199 : Int.toNat x19 < 43 := by rw [h196]; decide
 have hj200 : (rulC : List Value)[Int.toNat x19]? = some (.func (.func 36) #[] #[]) := by rw [h196]; rfl
 refine gx_vA (.pointer (some ⟨g1, (Int.toNat x19), none⟩)) w14 (run_ixarr (E := 34) (m := 43) (k := .i64) (i := Int.toNat x19) rfl (by as_aux_lemma => kernel_rfl) (by as_aux_lemma => kernel_rfl) hz198 (by as_aux_lemma => kernel_rfl) (fun _ => by kernel_rfl) hi199) (gx_vA (.func (.func 36) #[] #[]) w14 (rl1 (hS15.box 1 rfl (Int.toNat x19) hj200)) (gx_kA (vP g0) w14 ?_))
 have hP201 : St _ _ w14 ([plE g0 zA zc A0_1 c0_1 zb zg zl zn p0_4 p0_5 p0_6 p0_7 p0_8 p0_9 p0_10 p0_11] ++ [boxE g1 rulC 35]) := hS15
 obtain ⟨⟨x203, b204⟩, hc202, hF197⟩ := bind_in hF197
 try dsimp only at hF197
 refine gx_cA _ (qAheadOfSeparator_ok N zb zg zl zn p0_4 p0_5 p0_6 p0_7 p0_8 p0_9 p0_10 p0_11 g0 zA zc A0_1 c0_1 _ hc202 w14 (hP201.vwA hv0_0) (hP201.vwA hv0_1) hP201.part) ?_
 rintro _ w205 ⟨rfl, hT207⟩
 have hS206 : St _ _ w205 [boxE g1 rulC 35, plE g0 zA zc A0_1 c0_1 zb zg zl zn p0_4 p0_5 p0_6 p0_7 p0_8 p0_9 p0_10 p0_11] := hP201.lendN _ hT207
 refine gx_kA (.tuple #[.int .u8 x203, .bool b204]) w205 (gx_kA (.int .u8 x203) w205 (gx_kA (.bool b204) w205 (gx_kA (.int .u8 x203) w205 (gx_kA (.bool b204) w205 (gx_nil (gx_blkN (gx_thenN (hK27 _ _ (gx_region (gx_kA (i6 x19) w205 (gx_kA (i6 (iw (x19 + 1))) w205 (gx_kA (i6 (iw (x19 + 1))) w205 (gx_nil ?_)))))))))))))
 refine gx_thenN ?_
 exact ⟨k20, Nat.lt_succ_self k20, x203, b204, (iw (x19 + 1)), selfX, hF197, (hS206.pick [1, 0] rfl rfl)⟩
 rcases if_in hF197 with ⟨h208, hF209⟩ | ⟨h208, hF209⟩
 have hz210 : x19 = ((Int.toNat x19 : Nat) : Int) := by rw [h208]; rfl
 have hi211 : Int.toNat x19 < 43 := by rw [h208]; decide
 have hj212 : (rulC : List Value)[Int.toNat x19]? = some (.func (.func 37) #[] #[]) := by rw [h208]; rfl
 refine gx_vA (.pointer (some ⟨g1, (Int.toNat x19), none⟩)) w14 (run_ixarr (E := 34) (m := 43) (k := .i64) (i := Int.toNat x19) rfl (by as_aux_lemma => kernel_rfl) (by as_aux_lemma => kernel_rfl) hz210 (by as_aux_lemma => kernel_rfl) (fun _ => by kernel_rfl) hi211) (gx_vA (.func (.func 37) #[] #[]) w14 (rl1 (hS15.box 1 rfl (Int.toNat x19) hj212)) (gx_kA (vP g0) w14 ?_))
 have hP213 : St _ _ w14 ([plE g0 zA zc A0_1 c0_1 zb zg zl zn p0_4 p0_5 p0_6 p0_7 p0_8 p0_9 p0_10 p0_11] ++ [boxE g1 rulC 35]) := hS15
 obtain ⟨⟨x215, b216⟩, hc214, hF209⟩ := bind_in hF209
 try dsimp only at hF209
 refine gx_cA _ (qAheadOfNonstarter_ok N zb zg zl zn p0_4 p0_5 p0_6 p0_7 p0_8 p0_9 p0_10 p0_11 g0 zA zc A0_1 c0_1 _ hc214 w14 (hP213.vwA hv0_0) (hP213.vwA hv0_1) hP213.part) ?_
 rintro _ w217 ⟨rfl, hT219⟩
 have hS218 : St _ _ w217 [boxE g1 rulC 35, plE g0 zA zc A0_1 c0_1 zb zg zl zn p0_4 p0_5 p0_6 p0_7 p0_8 p0_9 p0_10 p0_11] := hP213.lendN _ hT219
 refine gx_kA (.tuple #[.int .u8 x215, .bool b216]) w217 (gx_kA (.int .u8 x215) w217 (gx_kA (.bool b216) w217 (gx_kA (.int .u8 x215) w217 (gx_kA (.bool b216) w217 (gx_nil (gx_blkN (gx_thenN (hK27 _ _ (gx_region (gx_kA (i6 x19) w217 (gx_kA (i6 (iw (x19 + 1))) w217 (gx_kA (i6 (iw (x19 + 1))) w217 (gx_nil ?_)))))))))))))
 refine gx_thenN ?_
 exact ⟨k20, Nat.lt_succ_self k20, x215, b216, (iw (x19 + 1)), selfX, hF209, (hS218.pick [1, 0] rfl rfl)⟩
 rcases if_in hF209 with ⟨h220, hF221⟩ | ⟨h220, hF221⟩
 have hz222 : x19 = ((Int.toNat x19 : Nat) : Int) := by rw [h220]; rfl
 have hi223 : Int.toNat x19 < 43 := by rw [h220]; decide
 have hj224 : (rulC : List Value)[Int.toNat x19]? = some (.func (.func 38) #[] #[]) := by rw [h220]; rfl
 refine gx_vA (.pointer (some ⟨g1, (Int.toNat x19), none⟩)) w14 (run_ixarr (E := 34) (m := 43) (k := .i64) (i := Int.toNat x19) rfl (by as_aux_lemma => kernel_rfl) (by as_aux_lemma => kernel_rfl) hz222 (by as_aux_lemma => kernel_rfl) (fun _ => by kernel_rfl) hi223) (gx_vA (.func (.func 38) #[] #[]) w14 (rl1 (hS15.box 1 rfl (Int.toNat x19) hj224)) (gx_kA (vP g0) w14 ?_))
 have hP225 : St _ _ w14 ([plE g0 zA zc A0_1 c0_1 zb zg zl zn p0_4 p0_5 p0_6 p0_7 p0_8 p0_9 p0_10 p0_11] ++ [boxE g1 rulC 35]) := hS15
 obtain ⟨⟨x227, b228⟩, hc226, hF221⟩ := bind_in hF221
 try dsimp only at hF221
 refine gx_cA _ (qBetweenDashes_ok N zb zg zl zn p0_4 p0_5 p0_6 p0_7 p0_8 p0_9 p0_10 p0_11 g0 zA zc A0_1 c0_1 _ hc226 w14 (hP225.vwA hv0_0) (hP225.vwA hv0_1) hP225.part) ?_
 rintro _ w229 ⟨rfl, hT231⟩
 have hS230 : St _ _ w229 [boxE g1 rulC 35, plE g0 zA zc A0_1 c0_1 zb zg zl zn p0_4 p0_5 p0_6 p0_7 p0_8 p0_9 p0_10 p0_11] := hP225.lendN _ hT231
 refine gx_kA (.tuple #[.int .u8 x227, .bool b228]) w229 (gx_kA (.int .u8 x227) w229 (gx_kA (.bool b228) w229 (gx_kA (.int .u8 x227) w229 (gx_kA (.bool b228) w229 (gx_nil (gx_blkN (gx_thenN (hK27 _ _ (gx_region (gx_kA (i6 x19) w229 (gx_kA (i6 (iw (x19 + 1))) w229 (gx_kA (i6 (iw (x19 + 1))) w229 (gx_nil ?_)))))))))))))
 refine gx_thenN ?_
 exact ⟨k20, Nat.lt_succ_self k20, x227, b228, (iw (x19 + 1)), selfX, hF221, (hS230.pick [1, 0] rfl rfl)⟩
 rcases if_in hF221 with ⟨h232, hF233⟩ | ⟨h232, hF233⟩
 have hz234 : x19 = ((Int.toNat x19 : Nat) : Int) := by rw [h232]; rfl
 have hi235 : Int.toNat x19 < 43 := by rw [h232]; decide
 have hj236 : (rulC : List Value)[Int.toNat x19]? = some (.func (.func 39) #[] #[]) := by rw [h232]; rfl
 refine gx_vA (.pointer (some ⟨g1, (Int.toNat x19), none⟩)) w14 (run_ixarr (E := 34) (m := 43) (k := .i64) (i := Int.toNat x19) rfl (by as_aux_lemma => kernel_rfl) (by as_aux_lemma => kernel_rfl) hz234 (by as_aux_lemma => kernel_rfl) (fun _ => by kernel_rfl) hi235) (gx_vA (.func (.func 39) #[] #[]) w14 (rl1 (hS15.box 1 rfl (Int.toNat x19) hj236)) (gx_kA (vP g0) w14 ?_))
 have hP237 : St _ _ w14 ([plE g0 zA zc A0_1 c0_1 zb zg zl zn p0_4 p0_5 p0_6 p0_7 p0_8 p0_9 p0_10 p0_11] ++ [boxE g1 rulC 35]) := hS15
 obtain ⟨⟨x239, b240⟩, hc238, hF233⟩ := bind_in hF233
 try dsimp only at hF233
 refine gx_cA _ (qBehindSpace_ok N zb zg zl zn p0_4 p0_5 p0_6 p0_7 p0_8 p0_9 p0_10 p0_11 g0 zA zc A0_1 c0_1 _ hc238 w14 (hP237.vwA hv0_0) (hP237.vwA hv0_1) hP237.part) ?_
 rintro _ w241 ⟨rfl, hT243⟩
 have hS242 : St _ _ w241 [boxE g1 rulC 35, plE g0 zA zc A0_1 c0_1 zb zg zl zn p0_4 p0_5 p0_6 p0_7 p0_8 p0_9 p0_10 p0_11] := hP237.lendN _ hT243
 refine gx_kA (.tuple #[.int .u8 x239, .bool b240]) w241 (gx_kA (.int .u8 x239) w241 (gx_kA (.bool b240) w241 (gx_kA (.int .u8 x239) w241 (gx_kA (.bool b240) w241 (gx_nil (gx_blkN (gx_thenN (hK27 _ _ (gx_region (gx_kA (i6 x19) w241 (gx_kA (i6 (iw (x19 + 1))) w241 (gx_kA (i6 (iw (x19 + 1))) w241 (gx_nil ?_)))))))))))))
 refine gx_thenN ?_
 exact ⟨k20, Nat.lt_succ_self k20, x239, b240, (iw (x19 + 1)), selfX, hF233, (hS242.pick [1, 0] rfl rfl)⟩
 rcases if_in hF233 with ⟨h244, hF245⟩ | ⟨h244, hF245⟩
 have hz246 : x19 = ((Int.toNat x19 : Nat) : Int) := by rw [h244]; rfl
 have hi247 : Int.toNat x19 < 43 := by rw [h244]; decide
 have hj248 : (rulC : List Value)[Int.toNat x19]? = some (.func (.func 40) #[] #[]) := by rw [h244]; rfl
 refine gx_vA (.pointer (some ⟨g1, (Int.toNat x19), none⟩)) w14 (run_ixarr (E := 34) (m := 43) (k := .i64) (i := Int.toNat x19) rfl (by as_aux_lemma => kernel_rfl) (by as_aux_lemma => kernel_rfl) hz246 (by as_aux_lemma => kernel_rfl) (fun _ => by kernel_rfl) hi247) (gx_vA (.func (.func 40) #[] #[]) w14 (rl1 (hS15.box 1 rfl (Int.toNat x19) hj248)) (gx_kA (vP g0) w14 ?_))
 have hP249 : St _ _ w14 ([plE g0 zA zc A0_1 c0_1 zb zg zl zn p0_4 p0_5 p0_6 p0_7 p0_8 p0_9 p0_10 p0_11] ++ [boxE g1 rulC 35]) := hS15
 obtain ⟨⟨x251, b252⟩, hc250, hF245⟩ := bind_in hF245
 try dsimp only at hF245
 refine gx_cA _ (qAheadOfQuote_ok N zb zg zl zn p0_4 p0_5 p0_6 p0_7 p0_8 p0_9 p0_10 p0_11 g0 zA zc A0_1 c0_1 _ hc250 w14 (hP249.vwA hv0_0) (hP249.vwA hv0_1) hP249.part) ?_
 rintro _ w253 ⟨rfl, hT255⟩
 have hS254 : St _ _ w253 [boxE g1 rulC 35, plE g0 zA zc A0_1 c0_1 zb zg zl zn p0_4 p0_5 p0_6 p0_7 p0_8 p0_9 p0_10 p0_11] := hP249.lendN _ hT255
 refine gx_kA (.tuple #[.int .u8 x251, .bool b252]) w253 (gx_kA (.int .u8 x251) w253 (gx_kA (.bool b252) w253 (gx_kA (.int .u8 x251) w253 (gx_kA (.bool b252) w253 (gx_nil (gx_blkN (gx_thenN (hK27 _ _ (gx_region (gx_kA (i6 x19) w253 (gx_kA (i6 (iw (x19 + 1))) w253 (gx_kA (i6 (iw (x19 + 1))) w253 (gx_nil ?_)))))))))))))
 refine gx_thenN ?_
 exact ⟨k20, Nat.lt_succ_self k20, x251, b252, (iw (x19 + 1)), selfX, hF245, (hS254.pick [1, 0] rfl rfl)⟩
 rcases if_in hF245 with ⟨h256, hF257⟩ | ⟨h256, hF257⟩
 have hz258 : x19 = ((Int.toNat x19 : Nat) : Int) := by rw [h256]; rfl
 have hi259 : Int.toNat x19 < 43 := by rw [h256]; decide
 have hj260 : (rulC : List Value)[Int.toNat x19]? = some (.func (.func 41) #[] #[]) := by rw [h256]; rfl
 refine gx_vA (.pointer (some ⟨g1, (Int.toNat x19), none⟩)) w14 (run_ixarr (E := 34) (m := 43) (k := .i64) (i := Int.toNat x19) rfl (by as_aux_lemma => kernel_rfl) (by as_aux_lemma => kernel_rfl) hz258 (by as_aux_lemma => kernel_rfl) (fun _ => by kernel_rfl) hi259) (gx_vA (.func (.func 41) #[] #[]) w14 (rl1 (hS15.box 1 rfl (Int.toNat x19) hj260)) (gx_kA (vP g0) w14 ?_))
 have hP261 : St _ _ w14 ([plE g0 zA zc A0_1 c0_1 zb zg zl zn p0_4 p0_5 p0_6 p0_7 p0_8 p0_9 p0_10 p0_11] ++ [boxE g1 rulC 35]) := hS15
 obtain ⟨⟨x263, b264⟩, hc262, hF257⟩ := bind_in hF257
 try dsimp only at hF257
 refine gx_cA _ (qBehindQuote_ok N zb zg zl zn p0_4 p0_5 p0_6 p0_7 p0_8 p0_9 p0_10 p0_11 g0 zA zc A0_1 c0_1 _ hc262 w14 (hP261.vwA hv0_0) (hP261.vwA hv0_1) hP261.part) ?_
 rintro _ w265 ⟨rfl, hT267⟩
 have hS266 : St _ _ w265 [boxE g1 rulC 35, plE g0 zA zc A0_1 c0_1 zb zg zl zn p0_4 p0_5 p0_6 p0_7 p0_8 p0_9 p0_10 p0_11] := hP261.lendN _ hT267
 refine gx_kA (.tuple #[.int .u8 x263, .bool b264]) w265 (gx_kA (.int .u8 x263) w265 (gx_kA (.bool b264) w265 (gx_kA (.int .u8 x263) w265 (gx_kA (.bool b264) w265 (gx_nil (gx_blkN (gx_thenN (hK27 _ _ (gx_region (gx_kA (i6 x19) w265 (gx_kA (i6 (iw (x19 + 1))) w265 (gx_kA (i6 (iw (x19 + 1))) w265 (gx_nil ?_)))))))))))))
 refine gx_thenN ?_
 exact ⟨k20, Nat.lt_succ_self k20, x263, b264, (iw (x19 + 1)), selfX, hF257, (hS266.pick [1, 0] rfl rfl)⟩
 rcases if_in hF257 with ⟨h268, hF269⟩ | ⟨h268, hF269⟩
 have hz270 : x19 = ((Int.toNat x19 : Nat) : Int) := by rw [h268]; rfl
 have hi271 : Int.toNat x19 < 43 := by rw [h268]; decide
 have hj272 : (rulC : List Value)[Int.toNat x19]? = some (.func (.func 42) #[] #[]) := by rw [h268]; rfl
 refine gx_vA (.pointer (some ⟨g1, (Int.toNat x19), none⟩)) w14 (run_ixarr (E := 34) (m := 43) (k := .i64) (i := Int.toNat x19) rfl (by as_aux_lemma => kernel_rfl) (by as_aux_lemma => kernel_rfl) hz270 (by as_aux_lemma => kernel_rfl) (fun _ => by kernel_rfl) hi271) (gx_vA (.func (.func 42) #[] #[]) w14 (rl1 (hS15.box 1 rfl (Int.toNat x19) hj272)) (gx_kA (vP g0) w14 ?_))
 have hP273 : St _ _ w14 ([plE g0 zA zc A0_1 c0_1 zb zg zl zn p0_4 p0_5 p0_6 p0_7 p0_8 p0_9 p0_10 p0_11] ++ [boxE g1 rulC 35]) := hS15
 obtain ⟨⟨x275, b276⟩, hc274, hF269⟩ := bind_in hF269
 try dsimp only at hF269
 refine gx_cA _ (qAheadOfNarrowQuote_ok N zb zg zl zn p0_4 p0_5 p0_6 p0_7 p0_8 p0_9 p0_10 p0_11 g0 zA zc A0_1 c0_1 _ hc274 w14 (hP273.vwA hv0_0) (hP273.vwA hv0_1) hP273.part) ?_
 rintro _ w277 ⟨rfl, hT279⟩
 have hS278 : St _ _ w277 [boxE g1 rulC 35, plE g0 zA zc A0_1 c0_1 zb zg zl zn p0_4 p0_5 p0_6 p0_7 p0_8 p0_9 p0_10 p0_11] := hP273.lendN _ hT279
 refine gx_kA (.tuple #[.int .u8 x275, .bool b276]) w277 (gx_kA (.int .u8 x275) w277 (gx_kA (.bool b276) w277 (gx_kA (.int .u8 x275) w277 (gx_kA (.bool b276) w277 (gx_nil (gx_blkN (gx_thenN (hK27 _ _ (gx_region (gx_kA (i6 x19) w277 (gx_kA (i6 (iw (x19 + 1))) w277 (gx_kA (i6 (iw (x19 + 1))) w277 (gx_nil ?_)))))))))))))
 refine gx_thenN ?_
 exact ⟨k20, Nat.lt_succ_self k20, x275, b276, (iw (x19 + 1)), selfX, hF269, (hS278.pick [1, 0] rfl rfl)⟩
 rcases if_in hF269 with ⟨h280, hF281⟩ | ⟨h280, hF281⟩
 have hz282 : x19 = ((Int.toNat x19 : Nat) : Int) := by rw [h280]; rfl
 have hi283 : Int.toNat x19 < 43 := by rw [h280]; decide
 have hj284 : (rulC : List Value)[Int.toNat x19]? = some (.func (.func 43) #[] #[]) := by rw [h280]; rfl
 refine gx_vA (.pointer (some ⟨g1, (Int.toNat x19), none⟩)) w14 (run_ixarr (E := 34) (m := 43) (k := .i64) (i := Int.toNat x19) rfl (by as_aux_lemma => kernel_rfl) (by as_aux_lemma => kernel_rfl) hz282 (by as_aux_lemma => kernel_rfl) (fun _ => by kernel_rfl) hi283) (gx_vA (.func (.func 43) #[] #[]) w14 (rl1 (hS15.box 1 rfl (Int.toNat x19) hj284)) (gx_kA (vP g0) w14 ?_))
 have hP285 : St _ _ w14 ([plE g0 zA zc A0_1 c0_1 zb zg zl zn p0_4 p0_5 p0_6 p0_7 p0_8 p0_9 p0_10 p0_11] ++ [boxE g1 rulC 35]) := hS15
 obtain ⟨⟨x287, b288⟩, hc286, hF281⟩ := bind_in hF281
 try dsimp only at hF281
 refine gx_cA _ (qBehindNarrowQuote_ok N zb zg zl zn p0_4 p0_5 p0_6 p0_7 p0_8 p0_9 p0_10 p0_11 g0 zA zc A0_1 c0_1 _ hc286 w14 (hP285.vwA hv0_0) (hP285.vwA hv0_1) hP285.part) ?_
 rintro _ w289 ⟨rfl, hT291⟩
 have hS290 : St _ _ w289 [boxE g1 rulC 35, plE g0 zA zc A0_1 c0_1 zb zg zl zn p0_4 p0_5 p0_6 p0_7 p0_8 p0_9 p0_10 p0_11] := hP285.lendN _ hT291
 refine gx_kA (.tuple #[.int .u8 x287, .bool b288]) w289 (gx_kA (.int .u8 x287) w289 (gx_kA (.bool b288) w289 (gx_kA (.int .u8 x287) w289 (gx_kA (.bool b288) w289 (gx_nil (gx_blkN (gx_thenN (hK27 _ _ (gx_region (gx_kA (i6 x19) w289 (gx_kA (i6 (iw (x19 + 1))) w289 (gx_kA (i6 (iw (x19 + 1))) w289 (gx_nil ?_)))))))))))))
 refine gx_thenN ?_
 exact ⟨k20, Nat.lt_succ_self k20, x287, b288, (iw (x19 + 1)), selfX, hF281, (hS290.pick [1, 0] rfl rfl)⟩
 rcases if_in hF281 with ⟨h292, hF293⟩ | ⟨h292, hF293⟩
 have hz294 : x19 = ((Int.toNat x19 : Nat) : Int) := by rw [h292]; rfl
 have hi295 : Int.toNat x19 < 43 := by rw [h292]; decide
 have hj296 : (rulC : List Value)[Int.toNat x19]? = some (.func (.func 44) #[] #[]) := by rw [h292]; rfl
 refine gx_vA (.pointer (some ⟨g1, (Int.toNat x19), none⟩)) w14 (run_ixarr (E := 34) (m := 43) (k := .i64) (i := Int.toNat x19) rfl (by as_aux_lemma => kernel_rfl) (by as_aux_lemma => kernel_rfl) hz294 (by as_aux_lemma => kernel_rfl) (fun _ => by kernel_rfl) hi295) (gx_vA (.func (.func 44) #[] #[]) w14 (rl1 (hS15.box 1 rfl (Int.toNat x19) hj296)) (gx_kA (vP g0) w14 ?_))
 have hP297 : St _ _ w14 ([plE g0 zA zc A0_1 c0_1 zb zg zl zn p0_4 p0_5 p0_6 p0_7 p0_8 p0_9 p0_10 p0_11] ++ [boxE g1 rulC 35]) := hS15
 obtain ⟨⟨x299, b300⟩, hc298, hF293⟩ := bind_in hF293
 try dsimp only at hF293
 refine gx_cA _ (qBesideObject_ok N zb zg zl zn p0_4 p0_5 p0_6 p0_7 p0_8 p0_9 p0_10 p0_11 g0 zA zc A0_1 c0_1 _ hc298 w14 (hP297.vwA hv0_0) (hP297.vwA hv0_1) hP297.part) ?_
 rintro _ w301 ⟨rfl, hT303⟩
 have hS302 : St _ _ w301 [boxE g1 rulC 35, plE g0 zA zc A0_1 c0_1 zb zg zl zn p0_4 p0_5 p0_6 p0_7 p0_8 p0_9 p0_10 p0_11] := hP297.lendN _ hT303
 refine gx_kA (.tuple #[.int .u8 x299, .bool b300]) w301 (gx_kA (.int .u8 x299) w301 (gx_kA (.bool b300) w301 (gx_kA (.int .u8 x299) w301 (gx_kA (.bool b300) w301 (gx_nil (gx_blkN (gx_thenN (hK27 _ _ (gx_region (gx_kA (i6 x19) w301 (gx_kA (i6 (iw (x19 + 1))) w301 (gx_kA (i6 (iw (x19 + 1))) w301 (gx_nil ?_)))))))))))))
 refine gx_thenN ?_
 exact ⟨k20, Nat.lt_succ_self k20, x299, b300, (iw (x19 + 1)), selfX, hF293, (hS302.pick [1, 0] rfl rfl)⟩
 rcases if_in hF293 with ⟨h304, hF305⟩ | ⟨h304, hF305⟩
 have hz306 : x19 = ((Int.toNat x19 : Nat) : Int) := by rw [h304]; rfl
 have hi307 : Int.toNat x19 < 43 := by rw [h304]; decide
 have hj308 : (rulC : List Value)[Int.toNat x19]? = some (.func (.func 45) #[] #[]) := by rw [h304]; rfl
 refine gx_vA (.pointer (some ⟨g1, (Int.toNat x19), none⟩)) w14 (run_ixarr (E := 34) (m := 43) (k := .i64) (i := Int.toNat x19) rfl (by as_aux_lemma => kernel_rfl) (by as_aux_lemma => kernel_rfl) hz306 (by as_aux_lemma => kernel_rfl) (fun _ => by kernel_rfl) hi307) (gx_vA (.func (.func 45) #[] #[]) w14 (rl1 (hS15.box 1 rfl (Int.toNat x19) hj308)) (gx_kA (vP g0) w14 ?_))
 have hP309 : St _ _ w14 ([plE g0 zA zc A0_1 c0_1 zb zg zl zn p0_4 p0_5 p0_6 p0_7 p0_8 p0_9 p0_10 p0_11] ++ [boxE g1 rulC 35]) := hS15
 obtain ⟨⟨x311, b312⟩, hc310, hF305⟩ := bind_in hF305
 try dsimp only at hF305
 refine gx_cA _ (qBehindFirstHyphen_ok N zb zg zl zn p0_4 p0_5 p0_6 p0_7 p0_8 p0_9 p0_10 p0_11 g0 zA zc A0_1 c0_1 _ hc310 w14 (hP309.vwA hv0_0) (hP309.vwA hv0_1) hP309.part) ?_
 rintro _ w313 ⟨rfl, hT315⟩
 have hS314 : St _ _ w313 [boxE g1 rulC 35, plE g0 zA zc A0_1 c0_1 zb zg zl zn p0_4 p0_5 p0_6 p0_7 p0_8 p0_9 p0_10 p0_11] := hP309.lendN _ hT315
 refine gx_kA (.tuple #[.int .u8 x311, .bool b312]) w313 (gx_kA (.int .u8 x311) w313 (gx_kA (.bool b312) w313 (gx_kA (.int .u8 x311) w313 (gx_kA (.bool b312) w313 (gx_nil (gx_blkN (gx_thenN (hK27 _ _ (gx_region (gx_kA (i6 x19) w313 (gx_kA (i6 (iw (x19 + 1))) w313 (gx_kA (i6 (iw (x19 + 1))) w313 (gx_nil ?_)))))))))))))
 refine gx_thenN ?_
 exact ⟨k20, Nat.lt_succ_self k20, x311, b312, (iw (x19 + 1)), selfX, hF305, (hS314.pick [1, 0] rfl rfl)⟩
 rcases if_in hF305 with ⟨h316, hF317⟩ | ⟨h316, hF317⟩
 have hz318 : x19 = ((Int.toNat x19 : Nat) : Int) := by rw [h316]; rfl
 have hi319 : Int.toNat x19 < 43 := by rw [h316]; decide
 have hj320 : (rulC : List Value)[Int.toNat x19]? = some (.func (.func 46) #[] #[]) := by rw [h316]; rfl
 refine gx_vA (.pointer (some ⟨g1, (Int.toNat x19), none⟩)) w14 (run_ixarr (E := 34) (m := 43) (k := .i64) (i := Int.toNat x19) rfl (by as_aux_lemma => kernel_rfl) (by as_aux_lemma => kernel_rfl) hz318 (by as_aux_lemma => kernel_rfl) (fun _ => by kernel_rfl) hi319) (gx_vA (.func (.func 46) #[] #[]) w14 (rl1 (hS15.box 1 rfl (Int.toNat x19) hj320)) (gx_kA (vP g0) w14 ?_))
 have hP321 : St _ _ w14 ([plE g0 zA zc A0_1 c0_1 zb zg zl zn p0_4 p0_5 p0_6 p0_7 p0_8 p0_9 p0_10 p0_11] ++ [boxE g1 rulC 35]) := hS15
 obtain ⟨⟨x323, b324⟩, hc322, hF317⟩ := bind_in hF317
 try dsimp only at hF317
 refine gx_cA _ (qBesideHyphen_ok N zb zg zl zn p0_4 p0_5 p0_6 p0_7 p0_8 p0_9 p0_10 p0_11 g0 zA zc A0_1 c0_1 _ hc322 w14 (hP321.vwA hv0_0) (hP321.vwA hv0_1) hP321.part) ?_
 rintro _ w325 ⟨rfl, hT327⟩
 have hS326 : St _ _ w325 [boxE g1 rulC 35, plE g0 zA zc A0_1 c0_1 zb zg zl zn p0_4 p0_5 p0_6 p0_7 p0_8 p0_9 p0_10 p0_11] := hP321.lendN _ hT327
 refine gx_kA (.tuple #[.int .u8 x323, .bool b324]) w325 (gx_kA (.int .u8 x323) w325 (gx_kA (.bool b324) w325 (gx_kA (.int .u8 x323) w325 (gx_kA (.bool b324) w325 (gx_nil (gx_blkN (gx_thenN (hK27 _ _ (gx_region (gx_kA (i6 x19) w325 (gx_kA (i6 (iw (x19 + 1))) w325 (gx_kA (i6 (iw (x19 + 1))) w325 (gx_nil ?_)))))))))))))
 refine gx_thenN ?_
 exact ⟨k20, Nat.lt_succ_self k20, x323, b324, (iw (x19 + 1)), selfX, hF317, (hS326.pick [1, 0] rfl rfl)⟩
 rcases if_in hF317 with ⟨h328, hF329⟩ | ⟨h328, hF329⟩
 have hz330 : x19 = ((Int.toNat x19 : Nat) : Int) := by rw [h328]; rfl
 have hi331 : Int.toNat x19 < 43 := by rw [h328]; decide
 have hj332 : (rulC : List Value)[Int.toNat x19]? = some (.func (.func 47) #[] #[]) := by rw [h328]; rfl
 refine gx_vA (.pointer (some ⟨g1, (Int.toNat x19), none⟩)) w14 (run_ixarr (E := 34) (m := 43) (k := .i64) (i := Int.toNat x19) rfl (by as_aux_lemma => kernel_rfl) (by as_aux_lemma => kernel_rfl) hz330 (by as_aux_lemma => kernel_rfl) (fun _ => by kernel_rfl) hi331) (gx_vA (.func (.func 47) #[] #[]) w14 (rl1 (hS15.box 1 rfl (Int.toNat x19) hj332)) (gx_kA (vP g0) w14 ?_))
 have hP333 : St _ _ w14 ([plE g0 zA zc A0_1 c0_1 zb zg zl zn p0_4 p0_5 p0_6 p0_7 p0_8 p0_9 p0_10 p0_11] ++ [boxE g1 rulC 35]) := hS15
 obtain ⟨⟨x335, b336⟩, hc334, hF329⟩ := bind_in hF329
 try dsimp only at hF329
 refine gx_cA _ (qBehindHebrewHyphen_ok N zb zg zl zn p0_4 p0_5 p0_6 p0_7 p0_8 p0_9 p0_10 p0_11 g0 zA zc A0_1 c0_1 _ hc334 w14 (hP333.vwA hv0_0) (hP333.vwA hv0_1) hP333.part) ?_
 rintro _ w337 ⟨rfl, hT339⟩
 have hS338 : St _ _ w337 [boxE g1 rulC 35, plE g0 zA zc A0_1 c0_1 zb zg zl zn p0_4 p0_5 p0_6 p0_7 p0_8 p0_9 p0_10 p0_11] := hP333.lendN _ hT339
 refine gx_kA (.tuple #[.int .u8 x335, .bool b336]) w337 (gx_kA (.int .u8 x335) w337 (gx_kA (.bool b336) w337 (gx_kA (.int .u8 x335) w337 (gx_kA (.bool b336) w337 (gx_nil (gx_blkN (gx_thenN (hK27 _ _ (gx_region (gx_kA (i6 x19) w337 (gx_kA (i6 (iw (x19 + 1))) w337 (gx_kA (i6 (iw (x19 + 1))) w337 (gx_nil ?_)))))))))))))
 refine gx_thenN ?_
 exact ⟨k20, Nat.lt_succ_self k20, x335, b336, (iw (x19 + 1)), selfX, hF329, (hS338.pick [1, 0] rfl rfl)⟩
 rcases if_in hF329 with ⟨h340, hF341⟩ | ⟨h340, hF341⟩
 have hz342 : x19 = ((Int.toNat x19 : Nat) : Int) := by rw [h340]; rfl
 have hi343 : Int.toNat x19 < 43 := by rw [h340]; decide
 have hj344 : (rulC : List Value)[Int.toNat x19]? = some (.func (.func 48) #[] #[]) := by rw [h340]; rfl
 refine gx_vA (.pointer (some ⟨g1, (Int.toNat x19), none⟩)) w14 (run_ixarr (E := 34) (m := 43) (k := .i64) (i := Int.toNat x19) rfl (by as_aux_lemma => kernel_rfl) (by as_aux_lemma => kernel_rfl) hz342 (by as_aux_lemma => kernel_rfl) (fun _ => by kernel_rfl) hi343) (gx_vA (.func (.func 48) #[] #[]) w14 (rl1 (hS15.box 1 rfl (Int.toNat x19) hj344)) (gx_kA (vP g0) w14 ?_))
 have hP345 : St _ _ w14 ([plE g0 zA zc A0_1 c0_1 zb zg zl zn p0_4 p0_5 p0_6 p0_7 p0_8 p0_9 p0_10 p0_11] ++ [boxE g1 rulC 35]) := hS15
 obtain ⟨⟨x347, b348⟩, hc346, hF341⟩ := bind_in hF341
 try dsimp only at hF341
 refine gx_cA _ (qSlashHebrew_ok N zb zg zl zn p0_4 p0_5 p0_6 p0_7 p0_8 p0_9 p0_10 p0_11 g0 zA zc A0_1 c0_1 _ hc346 w14 (hP345.vwA hv0_0) (hP345.vwA hv0_1) hP345.part) ?_
 rintro _ w349 ⟨rfl, hT351⟩
 have hS350 : St _ _ w349 [boxE g1 rulC 35, plE g0 zA zc A0_1 c0_1 zb zg zl zn p0_4 p0_5 p0_6 p0_7 p0_8 p0_9 p0_10 p0_11] := hP345.lendN _ hT351
 refine gx_kA (.tuple #[.int .u8 x347, .bool b348]) w349 (gx_kA (.int .u8 x347) w349 (gx_kA (.bool b348) w349 (gx_kA (.int .u8 x347) w349 (gx_kA (.bool b348) w349 (gx_nil (gx_blkN (gx_thenN (hK27 _ _ (gx_region (gx_kA (i6 x19) w349 (gx_kA (i6 (iw (x19 + 1))) w349 (gx_kA (i6 (iw (x19 + 1))) w349 (gx_nil ?_)))))))))))))
 refine gx_thenN ?_
 exact ⟨k20, Nat.lt_succ_self k20, x347, b348, (iw (x19 + 1)), selfX, hF341, (hS350.pick [1, 0] rfl rfl)⟩
 rcases if_in hF341 with ⟨h352, hF353⟩ | ⟨h352, hF353⟩
 have hz354 : x19 = ((Int.toNat x19 : Nat) : Int) := by rw [h352]; rfl
 have hi355 : Int.toNat x19 < 43 := by rw [h352]; decide
 have hj356 : (rulC : List Value)[Int.toNat x19]? = some (.func (.func 49) #[] #[]) := by rw [h352]; rfl
 refine gx_vA (.pointer (some ⟨g1, (Int.toNat x19), none⟩)) w14 (run_ixarr (E := 34) (m := 43) (k := .i64) (i := Int.toNat x19) rfl (by as_aux_lemma => kernel_rfl) (by as_aux_lemma => kernel_rfl) hz354 (by as_aux_lemma => kernel_rfl) (fun _ => by kernel_rfl) hi355) (gx_vA (.func (.func 49) #[] #[]) w14 (rl1 (hS15.box 1 rfl (Int.toNat x19) hj356)) (gx_kA (vP g0) w14 ?_))
 have hP357 : St _ _ w14 ([plE g0 zA zc A0_1 c0_1 zb zg zl zn p0_4 p0_5 p0_6 p0_7 p0_8 p0_9 p0_10 p0_11] ++ [boxE g1 rulC 35]) := hS15
 obtain ⟨⟨x359, b360⟩, hc358, hF353⟩ := bind_in hF353
 try dsimp only at hF353
 refine gx_cA _ (qAheadOfEllipsis_ok N zb zg zl zn p0_4 p0_5 p0_6 p0_7 p0_8 p0_9 p0_10 p0_11 g0 zA zc A0_1 c0_1 _ hc358 w14 (hP357.vwA hv0_0) (hP357.vwA hv0_1) hP357.part) ?_
 rintro _ w361 ⟨rfl, hT363⟩
 have hS362 : St _ _ w361 [boxE g1 rulC 35, plE g0 zA zc A0_1 c0_1 zb zg zl zn p0_4 p0_5 p0_6 p0_7 p0_8 p0_9 p0_10 p0_11] := hP357.lendN _ hT363
 refine gx_kA (.tuple #[.int .u8 x359, .bool b360]) w361 (gx_kA (.int .u8 x359) w361 (gx_kA (.bool b360) w361 (gx_kA (.int .u8 x359) w361 (gx_kA (.bool b360) w361 (gx_nil (gx_blkN (gx_thenN (hK27 _ _ (gx_region (gx_kA (i6 x19) w361 (gx_kA (i6 (iw (x19 + 1))) w361 (gx_kA (i6 (iw (x19 + 1))) w361 (gx_nil ?_)))))))))))))
 refine gx_thenN ?_
 exact ⟨k20, Nat.lt_succ_self k20, x359, b360, (iw (x19 + 1)), selfX, hF353, (hS362.pick [1, 0] rfl rfl)⟩
 rcases if_in hF353 with ⟨h364, hF365⟩ | ⟨h364, hF365⟩
 have hz366 : x19 = ((Int.toNat x19 : Nat) : Int) := by rw [h364]; rfl
 have hi367 : Int.toNat x19 < 43 := by rw [h364]; decide
 have hj368 : (rulC : List Value)[Int.toNat x19]? = some (.func (.func 50) #[] #[]) := by rw [h364]; rfl
 refine gx_vA (.pointer (some ⟨g1, (Int.toNat x19), none⟩)) w14 (run_ixarr (E := 34) (m := 43) (k := .i64) (i := Int.toNat x19) rfl (by as_aux_lemma => kernel_rfl) (by as_aux_lemma => kernel_rfl) hz366 (by as_aux_lemma => kernel_rfl) (fun _ => by kernel_rfl) hi367) (gx_vA (.func (.func 50) #[] #[]) w14 (rl1 (hS15.box 1 rfl (Int.toNat x19) hj368)) (gx_kA (vP g0) w14 ?_))
 have hP369 : St _ _ w14 ([plE g0 zA zc A0_1 c0_1 zb zg zl zn p0_4 p0_5 p0_6 p0_7 p0_8 p0_9 p0_10 p0_11] ++ [boxE g1 rulC 35]) := hS15
 obtain ⟨⟨x371, b372⟩, hc370, hF365⟩ := bind_in hF365
 try dsimp only at hF365
 refine gx_cA _ (qLetterDigit_ok N zb zg zl zn p0_4 p0_5 p0_6 p0_7 p0_8 p0_9 p0_10 p0_11 g0 zA zc A0_1 c0_1 _ hc370 w14 (hP369.vwA hv0_0) (hP369.vwA hv0_1) hP369.part) ?_
 rintro _ w373 ⟨rfl, hT375⟩
 have hS374 : St _ _ w373 [boxE g1 rulC 35, plE g0 zA zc A0_1 c0_1 zb zg zl zn p0_4 p0_5 p0_6 p0_7 p0_8 p0_9 p0_10 p0_11] := hP369.lendN _ hT375
 refine gx_kA (.tuple #[.int .u8 x371, .bool b372]) w373 (gx_kA (.int .u8 x371) w373 (gx_kA (.bool b372) w373 (gx_kA (.int .u8 x371) w373 (gx_kA (.bool b372) w373 (gx_nil (gx_blkN (gx_thenN (hK27 _ _ (gx_region (gx_kA (i6 x19) w373 (gx_kA (i6 (iw (x19 + 1))) w373 (gx_kA (i6 (iw (x19 + 1))) w373 (gx_nil ?_)))))))))))))
 refine gx_thenN ?_
 exact ⟨k20, Nat.lt_succ_self k20, x371, b372, (iw (x19 + 1)), selfX, hF365, (hS374.pick [1, 0] rfl rfl)⟩
 rcases if_in hF365 with ⟨h376, hF377⟩ | ⟨h376, hF377⟩
 have hz378 : x19 = ((Int.toNat x19 : Nat) : Int) := by rw [h376]; rfl
 have hi379 : Int.toNat x19 < 43 := by rw [h376]; decide
 have hj380 : (rulC : List Value)[Int.toNat x19]? = some (.func (.func 51) #[] #[]) := by rw [h376]; rfl
 refine gx_vA (.pointer (some ⟨g1, (Int.toNat x19), none⟩)) w14 (run_ixarr (E := 34) (m := 43) (k := .i64) (i := Int.toNat x19) rfl (by as_aux_lemma => kernel_rfl) (by as_aux_lemma => kernel_rfl) hz378 (by as_aux_lemma => kernel_rfl) (fun _ => by kernel_rfl) hi379) (gx_vA (.func (.func 51) #[] #[]) w14 (rl1 (hS15.box 1 rfl (Int.toNat x19) hj380)) (gx_kA (vP g0) w14 ?_))
 have hP381 : St _ _ w14 ([plE g0 zA zc A0_1 c0_1 zb zg zl zn p0_4 p0_5 p0_6 p0_7 p0_8 p0_9 p0_10 p0_11] ++ [boxE g1 rulC 35]) := hS15
 obtain ⟨⟨x383, b384⟩, hc382, hF377⟩ := bind_in hF377
 try dsimp only at hF377
 refine gx_cA _ (qSignIdeograph_ok N zb zg zl zn p0_4 p0_5 p0_6 p0_7 p0_8 p0_9 p0_10 p0_11 g0 zA zc A0_1 c0_1 _ hc382 w14 (hP381.vwA hv0_0) (hP381.vwA hv0_1) hP381.part) ?_
 rintro _ w385 ⟨rfl, hT387⟩
 have hS386 : St _ _ w385 [boxE g1 rulC 35, plE g0 zA zc A0_1 c0_1 zb zg zl zn p0_4 p0_5 p0_6 p0_7 p0_8 p0_9 p0_10 p0_11] := hP381.lendN _ hT387
 refine gx_kA (.tuple #[.int .u8 x383, .bool b384]) w385 (gx_kA (.int .u8 x383) w385 (gx_kA (.bool b384) w385 (gx_kA (.int .u8 x383) w385 (gx_kA (.bool b384) w385 (gx_nil (gx_blkN (gx_thenN (hK27 _ _ (gx_region (gx_kA (i6 x19) w385 (gx_kA (i6 (iw (x19 + 1))) w385 (gx_kA (i6 (iw (x19 + 1))) w385 (gx_nil ?_)))))))))))))
 refine gx_thenN ?_
 exact ⟨k20, Nat.lt_succ_self k20, x383, b384, (iw (x19 + 1)), selfX, hF377, (hS386.pick [1, 0] rfl rfl)⟩
 rcases if_in hF377 with ⟨h388, hF389⟩ | ⟨h388, hF389⟩
 have hz390 : x19 = ((Int.toNat x19 : Nat) : Int) := by rw [h388]; rfl
 have hi391 : Int.toNat x19 < 43 := by rw [h388]; decide
 have hj392 : (rulC : List Value)[Int.toNat x19]? = some (.func (.func 52) #[] #[]) := by rw [h388]; rfl
 refine gx_vA (.pointer (some ⟨g1, (Int.toNat x19), none⟩)) w14 (run_ixarr (E := 34) (m := 43) (k := .i64) (i := Int.toNat x19) rfl (by as_aux_lemma => kernel_rfl) (by as_aux_lemma => kernel_rfl) hz390 (by as_aux_lemma => kernel_rfl) (fun _ => by kernel_rfl) hi391) (gx_vA (.func (.func 52) #[] #[]) w14 (rl1 (hS15.box 1 rfl (Int.toNat x19) hj392)) (gx_kA (vP g0) w14 ?_))
 have hP393 : St _ _ w14 ([plE g0 zA zc A0_1 c0_1 zb zg zl zn p0_4 p0_5 p0_6 p0_7 p0_8 p0_9 p0_10 p0_11] ++ [boxE g1 rulC 35]) := hS15
 obtain ⟨⟨x395, b396⟩, hc394, hF389⟩ := bind_in hF389
 try dsimp only at hF389
 refine gx_cA _ (qSignLetter_ok N zb zg zl zn p0_4 p0_5 p0_6 p0_7 p0_8 p0_9 p0_10 p0_11 g0 zA zc A0_1 c0_1 _ hc394 w14 (hP393.vwA hv0_0) (hP393.vwA hv0_1) hP393.part) ?_
 rintro _ w397 ⟨rfl, hT399⟩
 have hS398 : St _ _ w397 [boxE g1 rulC 35, plE g0 zA zc A0_1 c0_1 zb zg zl zn p0_4 p0_5 p0_6 p0_7 p0_8 p0_9 p0_10 p0_11] := hP393.lendN _ hT399
 refine gx_kA (.tuple #[.int .u8 x395, .bool b396]) w397 (gx_kA (.int .u8 x395) w397 (gx_kA (.bool b396) w397 (gx_kA (.int .u8 x395) w397 (gx_kA (.bool b396) w397 (gx_nil (gx_blkN (gx_thenN (hK27 _ _ (gx_region (gx_kA (i6 x19) w397 (gx_kA (i6 (iw (x19 + 1))) w397 (gx_kA (i6 (iw (x19 + 1))) w397 (gx_nil ?_)))))))))))))
 refine gx_thenN ?_
 exact ⟨k20, Nat.lt_succ_self k20, x395, b396, (iw (x19 + 1)), selfX, hF389, (hS398.pick [1, 0] rfl rfl)⟩
 rcases if_in hF389 with ⟨h400, hF401⟩ | ⟨h400, hF401⟩
 have hz402 : x19 = ((Int.toNat x19 : Nat) : Int) := by rw [h400]; rfl
 have hi403 : Int.toNat x19 < 43 := by rw [h400]; decide
 have hj404 : (rulC : List Value)[Int.toNat x19]? = some (.func (.func 53) #[] #[]) := by rw [h400]; rfl
 refine gx_vA (.pointer (some ⟨g1, (Int.toNat x19), none⟩)) w14 (run_ixarr (E := 34) (m := 43) (k := .i64) (i := Int.toNat x19) rfl (by as_aux_lemma => kernel_rfl) (by as_aux_lemma => kernel_rfl) hz402 (by as_aux_lemma => kernel_rfl) (fun _ => by kernel_rfl) hi403) (gx_vA (.func (.func 53) #[] #[]) w14 (rl1 (hS15.box 1 rfl (Int.toNat x19) hj404)) (gx_kA (vP g0) w14 ?_))
 have hP405 : St _ _ w14 ([plE g0 zA zc A0_1 c0_1 zb zg zl zn p0_4 p0_5 p0_6 p0_7 p0_8 p0_9 p0_10 p0_11] ++ [boxE g1 rulC 35]) := hS15
 obtain ⟨⟨x407, b408⟩, hc406, hF401⟩ := bind_in hF401
 try dsimp only at hF401
 refine gx_cA _ (qNumberSign_ok N zb zg zl zn p0_4 p0_5 p0_6 p0_7 p0_8 p0_9 p0_10 p0_11 g0 zA zc A0_1 c0_1 _ hc406 w14 (hP405.vwA hv0_0) (hP405.vwA hv0_1) hP405.part) ?_
 rintro _ w409 ⟨rfl, hT411⟩
 have hS410 : St _ _ w409 [boxE g1 rulC 35, plE g0 zA zc A0_1 c0_1 zb zg zl zn p0_4 p0_5 p0_6 p0_7 p0_8 p0_9 p0_10 p0_11] := hP405.lendN _ hT411
 refine gx_kA (.tuple #[.int .u8 x407, .bool b408]) w409 (gx_kA (.int .u8 x407) w409 (gx_kA (.bool b408) w409 (gx_kA (.int .u8 x407) w409 (gx_kA (.bool b408) w409 (gx_nil (gx_blkN (gx_thenN (hK27 _ _ (gx_region (gx_kA (i6 x19) w409 (gx_kA (i6 (iw (x19 + 1))) w409 (gx_kA (i6 (iw (x19 + 1))) w409 (gx_nil ?_)))))))))))))
 refine gx_thenN ?_
 exact ⟨k20, Nat.lt_succ_self k20, x407, b408, (iw (x19 + 1)), selfX, hF401, (hS410.pick [1, 0] rfl rfl)⟩
 rcases if_in hF401 with ⟨h412, hF413⟩ | ⟨h412, hF413⟩
 have hz414 : x19 = ((Int.toNat x19 : Nat) : Int) := by rw [h412]; rfl
 have hi415 : Int.toNat x19 < 43 := by rw [h412]; decide
 have hj416 : (rulC : List Value)[Int.toNat x19]? = some (.func (.func 54) #[] #[]) := by rw [h412]; rfl
 refine gx_vA (.pointer (some ⟨g1, (Int.toNat x19), none⟩)) w14 (run_ixarr (E := 34) (m := 43) (k := .i64) (i := Int.toNat x19) rfl (by as_aux_lemma => kernel_rfl) (by as_aux_lemma => kernel_rfl) hz414 (by as_aux_lemma => kernel_rfl) (fun _ => by kernel_rfl) hi415) (gx_vA (.func (.func 54) #[] #[]) w14 (rl1 (hS15.box 1 rfl (Int.toNat x19) hj416)) (gx_kA (vP g0) w14 ?_))
 have hP417 : St _ _ w14 ([plE g0 zA zc A0_1 c0_1 zb zg zl zn p0_4 p0_5 p0_6 p0_7 p0_8 p0_9 p0_10 p0_11] ++ [boxE g1 rulC 35]) := hS15
 obtain ⟨⟨x419, b420⟩, hc418, hF413⟩ := bind_in hF413
 try dsimp only at hF413
 refine gx_cA _ (qSignNumber_ok N zb zg zl zn p0_4 p0_5 p0_6 p0_7 p0_8 p0_9 p0_10 p0_11 g0 zA zc A0_1 c0_1 _ hc418 w14 (hP417.vwA hv0_0) (hP417.vwA hv0_1) hP417.part) ?_
 rintro _ w421 ⟨rfl, hT423⟩
 have hS422 : St _ _ w421 [boxE g1 rulC 35, plE g0 zA zc A0_1 c0_1 zb zg zl zn p0_4 p0_5 p0_6 p0_7 p0_8 p0_9 p0_10 p0_11] := hP417.lendN _ hT423
 refine gx_kA (.tuple #[.int .u8 x419, .bool b420]) w421 (gx_kA (.int .u8 x419) w421 (gx_kA (.bool b420) w421 (gx_kA (.int .u8 x419) w421 (gx_kA (.bool b420) w421 (gx_nil (gx_blkN (gx_thenN (hK27 _ _ (gx_region (gx_kA (i6 x19) w421 (gx_kA (i6 (iw (x19 + 1))) w421 (gx_kA (i6 (iw (x19 + 1))) w421 (gx_nil ?_)))))))))))))
 refine gx_thenN ?_
 exact ⟨k20, Nat.lt_succ_self k20, x419, b420, (iw (x19 + 1)), selfX, hF413, (hS422.pick [1, 0] rfl rfl)⟩
 rcases if_in hF413 with ⟨h424, hF425⟩ | ⟨h424, hF425⟩
 have hz426 : x19 = ((Int.toNat x19 : Nat) : Int) := by rw [h424]; rfl
 have hi427 : Int.toNat x19 < 43 := by rw [h424]; decide
 have hj428 : (rulC : List Value)[Int.toNat x19]? = some (.func (.func 55) #[] #[]) := by rw [h424]; rfl
 refine gx_vA (.pointer (some ⟨g1, (Int.toNat x19), none⟩)) w14 (run_ixarr (E := 34) (m := 43) (k := .i64) (i := Int.toNat x19) rfl (by as_aux_lemma => kernel_rfl) (by as_aux_lemma => kernel_rfl) hz426 (by as_aux_lemma => kernel_rfl) (fun _ => by kernel_rfl) hi427) (gx_vA (.func (.func 55) #[] #[]) w14 (rl1 (hS15.box 1 rfl (Int.toNat x19) hj428)) (gx_kA (vP g0) w14 ?_))
 have hP429 : St _ _ w14 ([plE g0 zA zc A0_1 c0_1 zb zg zl zn p0_4 p0_5 p0_6 p0_7 p0_8 p0_9 p0_10 p0_11] ++ [boxE g1 rulC 35]) := hS15
 obtain ⟨⟨x431, b432⟩, hc430, hF425⟩ := bind_in hF425
 try dsimp only at hF425
 refine gx_cA _ (qHyphenDigit_ok N zb zg zl zn p0_4 p0_5 p0_6 p0_7 p0_8 p0_9 p0_10 p0_11 g0 zA zc A0_1 c0_1 _ hc430 w14 (hP429.vwA hv0_0) (hP429.vwA hv0_1) hP429.part) ?_
 rintro _ w433 ⟨rfl, hT435⟩
 have hS434 : St _ _ w433 [boxE g1 rulC 35, plE g0 zA zc A0_1 c0_1 zb zg zl zn p0_4 p0_5 p0_6 p0_7 p0_8 p0_9 p0_10 p0_11] := hP429.lendN _ hT435
 refine gx_kA (.tuple #[.int .u8 x431, .bool b432]) w433 (gx_kA (.int .u8 x431) w433 (gx_kA (.bool b432) w433 (gx_kA (.int .u8 x431) w433 (gx_kA (.bool b432) w433 (gx_nil (gx_blkN (gx_thenN (hK27 _ _ (gx_region (gx_kA (i6 x19) w433 (gx_kA (i6 (iw (x19 + 1))) w433 (gx_kA (i6 (iw (x19 + 1))) w433 (gx_nil ?_)))))))))))))
 refine gx_thenN ?_
 exact ⟨k20, Nat.lt_succ_self k20, x431, b432, (iw (x19 + 1)), selfX, hF425, (hS434.pick [1, 0] rfl rfl)⟩
 rcases if_in hF425 with ⟨h436, hF437⟩ | ⟨h436, hF437⟩
 have hz438 : x19 = ((Int.toNat x19 : Nat) : Int) := by rw [h436]; rfl
 have hi439 : Int.toNat x19 < 43 := by rw [h436]; decide
 have hj440 : (rulC : List Value)[Int.toNat x19]? = some (.func (.func 56) #[] #[]) := by rw [h436]; rfl
 refine gx_vA (.pointer (some ⟨g1, (Int.toNat x19), none⟩)) w14 (run_ixarr (E := 34) (m := 43) (k := .i64) (i := Int.toNat x19) rfl (by as_aux_lemma => kernel_rfl) (by as_aux_lemma => kernel_rfl) hz438 (by as_aux_lemma => kernel_rfl) (fun _ => by kernel_rfl) hi439) (gx_vA (.func (.func 56) #[] #[]) w14 (rl1 (hS15.box 1 rfl (Int.toNat x19) hj440)) (gx_kA (vP g0) w14 ?_))
 have hP441 : St _ _ w14 ([plE g0 zA zc A0_1 c0_1 zb zg zl zn p0_4 p0_5 p0_6 p0_7 p0_8 p0_9 p0_10 p0_11] ++ [boxE g1 rulC 35]) := hS15
 obtain ⟨⟨x443, b444⟩, hc442, hF437⟩ := bind_in hF437
 try dsimp only at hF437
 refine gx_cA _ (qNumberDigit_ok N zb zg zl zn p0_4 p0_5 p0_6 p0_7 p0_8 p0_9 p0_10 p0_11 g0 zA zc A0_1 c0_1 _ hc442 w14 (hP441.vwA hv0_0) (hP441.vwA hv0_1) hP441.part) ?_
 rintro _ w445 ⟨rfl, hT447⟩
 have hS446 : St _ _ w445 [boxE g1 rulC 35, plE g0 zA zc A0_1 c0_1 zb zg zl zn p0_4 p0_5 p0_6 p0_7 p0_8 p0_9 p0_10 p0_11] := hP441.lendN _ hT447
 refine gx_kA (.tuple #[.int .u8 x443, .bool b444]) w445 (gx_kA (.int .u8 x443) w445 (gx_kA (.bool b444) w445 (gx_kA (.int .u8 x443) w445 (gx_kA (.bool b444) w445 (gx_nil (gx_blkN (gx_thenN (hK27 _ _ (gx_region (gx_kA (i6 x19) w445 (gx_kA (i6 (iw (x19 + 1))) w445 (gx_kA (i6 (iw (x19 + 1))) w445 (gx_nil ?_)))))))))))))
 refine gx_thenN ?_
 exact ⟨k20, Nat.lt_succ_self k20, x443, b444, (iw (x19 + 1)), selfX, hF437, (hS446.pick [1, 0] rfl rfl)⟩
 rcases if_in hF437 with ⟨h448, hF449⟩ | ⟨h448, hF449⟩
 have hz450 : x19 = ((Int.toNat x19 : Nat) : Int) := by rw [h448]; rfl
 have hi451 : Int.toNat x19 < 43 := by rw [h448]; decide
 have hj452 : (rulC : List Value)[Int.toNat x19]? = some (.func (.func 57) #[] #[]) := by rw [h448]; rfl
 refine gx_vA (.pointer (some ⟨g1, (Int.toNat x19), none⟩)) w14 (run_ixarr (E := 34) (m := 43) (k := .i64) (i := Int.toNat x19) rfl (by as_aux_lemma => kernel_rfl) (by as_aux_lemma => kernel_rfl) hz450 (by as_aux_lemma => kernel_rfl) (fun _ => by kernel_rfl) hi451) (gx_vA (.func (.func 57) #[] #[]) w14 (rl1 (hS15.box 1 rfl (Int.toNat x19) hj452)) (gx_kA (vP g0) w14 ?_))
 have hP453 : St _ _ w14 ([plE g0 zA zc A0_1 c0_1 zb zg zl zn p0_4 p0_5 p0_6 p0_7 p0_8 p0_9 p0_10 p0_11] ++ [boxE g1 rulC 35]) := hS15
 obtain ⟨⟨x455, b456⟩, hc454, hF449⟩ := bind_in hF449
 try dsimp only at hF449
 refine gx_cA _ (qWithinSyllable_ok N zb zg zl zn p0_4 p0_5 p0_6 p0_7 p0_8 p0_9 p0_10 p0_11 g0 zA zc A0_1 c0_1 _ hc454 w14 (hP453.vwA hv0_0) (hP453.vwA hv0_1) hP453.part) ?_
 rintro _ w457 ⟨rfl, hT459⟩
 have hS458 : St _ _ w457 [boxE g1 rulC 35, plE g0 zA zc A0_1 c0_1 zb zg zl zn p0_4 p0_5 p0_6 p0_7 p0_8 p0_9 p0_10 p0_11] := hP453.lendN _ hT459
 refine gx_kA (.tuple #[.int .u8 x455, .bool b456]) w457 (gx_kA (.int .u8 x455) w457 (gx_kA (.bool b456) w457 (gx_kA (.int .u8 x455) w457 (gx_kA (.bool b456) w457 (gx_nil (gx_blkN (gx_thenN (hK27 _ _ (gx_region (gx_kA (i6 x19) w457 (gx_kA (i6 (iw (x19 + 1))) w457 (gx_kA (i6 (iw (x19 + 1))) w457 (gx_nil ?_)))))))))))))
 refine gx_thenN ?_
 exact ⟨k20, Nat.lt_succ_self k20, x455, b456, (iw (x19 + 1)), selfX, hF449, (hS458.pick [1, 0] rfl rfl)⟩
 rcases if_in hF449 with ⟨h460, hF461⟩ | ⟨h460, hF461⟩
 have hz462 : x19 = ((Int.toNat x19 : Nat) : Int) := by rw [h460]; rfl
 have hi463 : Int.toNat x19 < 43 := by rw [h460]; decide
 have hj464 : (rulC : List Value)[Int.toNat x19]? = some (.func (.func 58) #[] #[]) := by rw [h460]; rfl
 refine gx_vA (.pointer (some ⟨g1, (Int.toNat x19), none⟩)) w14 (run_ixarr (E := 34) (m := 43) (k := .i64) (i := Int.toNat x19) rfl (by as_aux_lemma => kernel_rfl) (by as_aux_lemma => kernel_rfl) hz462 (by as_aux_lemma => kernel_rfl) (fun _ => by kernel_rfl) hi463) (gx_vA (.func (.func 58) #[] #[]) w14 (rl1 (hS15.box 1 rfl (Int.toNat x19) hj464)) (gx_kA (vP g0) w14 ?_))
 have hP465 : St _ _ w14 ([plE g0 zA zc A0_1 c0_1 zb zg zl zn p0_4 p0_5 p0_6 p0_7 p0_8 p0_9 p0_10 p0_11] ++ [boxE g1 rulC 35]) := hS15
 obtain ⟨⟨x467, b468⟩, hc466, hF461⟩ := bind_in hF461
 try dsimp only at hF461
 refine gx_cA _ (qSignSyllable_ok N zb zg zl zn p0_4 p0_5 p0_6 p0_7 p0_8 p0_9 p0_10 p0_11 g0 zA zc A0_1 c0_1 _ hc466 w14 (hP465.vwA hv0_0) (hP465.vwA hv0_1) hP465.part) ?_
 rintro _ w469 ⟨rfl, hT471⟩
 have hS470 : St _ _ w469 [boxE g1 rulC 35, plE g0 zA zc A0_1 c0_1 zb zg zl zn p0_4 p0_5 p0_6 p0_7 p0_8 p0_9 p0_10 p0_11] := hP465.lendN _ hT471
 refine gx_kA (.tuple #[.int .u8 x467, .bool b468]) w469 (gx_kA (.int .u8 x467) w469 (gx_kA (.bool b468) w469 (gx_kA (.int .u8 x467) w469 (gx_kA (.bool b468) w469 (gx_nil (gx_blkN (gx_thenN (hK27 _ _ (gx_region (gx_kA (i6 x19) w469 (gx_kA (i6 (iw (x19 + 1))) w469 (gx_kA (i6 (iw (x19 + 1))) w469 (gx_nil ?_)))))))))))))
 refine gx_thenN ?_
 exact ⟨k20, Nat.lt_succ_self k20, x467, b468, (iw (x19 + 1)), selfX, hF461, (hS470.pick [1, 0] rfl rfl)⟩
 rcases if_in hF461 with ⟨h472, hF473⟩ | ⟨h472, hF473⟩
 have hz474 : x19 = ((Int.toNat x19 : Nat) : Int) := by rw [h472]; rfl
 have hi475 : Int.toNat x19 < 43 := by rw [h472]; decide
 have hj476 : (rulC : List Value)[Int.toNat x19]? = some (.func (.func 59) #[] #[]) := by rw [h472]; rfl
 refine gx_vA (.pointer (some ⟨g1, (Int.toNat x19), none⟩)) w14 (run_ixarr (E := 34) (m := 43) (k := .i64) (i := Int.toNat x19) rfl (by as_aux_lemma => kernel_rfl) (by as_aux_lemma => kernel_rfl) hz474 (by as_aux_lemma => kernel_rfl) (fun _ => by kernel_rfl) hi475) (gx_vA (.func (.func 59) #[] #[]) w14 (rl1 (hS15.box 1 rfl (Int.toNat x19) hj476)) (gx_kA (vP g0) w14 ?_))
 have hP477 : St _ _ w14 ([plE g0 zA zc A0_1 c0_1 zb zg zl zn p0_4 p0_5 p0_6 p0_7 p0_8 p0_9 p0_10 p0_11] ++ [boxE g1 rulC 35]) := hS15
 obtain ⟨⟨x479, b480⟩, hc478, hF473⟩ := bind_in hF473
 try dsimp only at hF473
 refine gx_cA _ (qBetweenLetters_ok N zb zg zl zn p0_4 p0_5 p0_6 p0_7 p0_8 p0_9 p0_10 p0_11 g0 zA zc A0_1 c0_1 _ hc478 w14 (hP477.vwA hv0_0) (hP477.vwA hv0_1) hP477.part) ?_
 rintro _ w481 ⟨rfl, hT483⟩
 have hS482 : St _ _ w481 [boxE g1 rulC 35, plE g0 zA zc A0_1 c0_1 zb zg zl zn p0_4 p0_5 p0_6 p0_7 p0_8 p0_9 p0_10 p0_11] := hP477.lendN _ hT483
 refine gx_kA (.tuple #[.int .u8 x479, .bool b480]) w481 (gx_kA (.int .u8 x479) w481 (gx_kA (.bool b480) w481 (gx_kA (.int .u8 x479) w481 (gx_kA (.bool b480) w481 (gx_nil (gx_blkN (gx_thenN (hK27 _ _ (gx_region (gx_kA (i6 x19) w481 (gx_kA (i6 (iw (x19 + 1))) w481 (gx_kA (i6 (iw (x19 + 1))) w481 (gx_nil ?_)))))))))))))
 refine gx_thenN ?_
 exact ⟨k20, Nat.lt_succ_self k20, x479, b480, (iw (x19 + 1)), selfX, hF473, (hS482.pick [1, 0] rfl rfl)⟩
 rcases if_in hF473 with ⟨h484, hF485⟩ | ⟨h484, hF485⟩
 have hz486 : x19 = ((Int.toNat x19 : Nat) : Int) := by rw [h484]; rfl
 have hi487 : Int.toNat x19 < 43 := by rw [h484]; decide
 have hj488 : (rulC : List Value)[Int.toNat x19]? = some (.func (.func 60) #[] #[]) := by rw [h484]; rfl
 refine gx_vA (.pointer (some ⟨g1, (Int.toNat x19), none⟩)) w14 (run_ixarr (E := 34) (m := 43) (k := .i64) (i := Int.toNat x19) rfl (by as_aux_lemma => kernel_rfl) (by as_aux_lemma => kernel_rfl) hz486 (by as_aux_lemma => kernel_rfl) (fun _ => by kernel_rfl) hi487) (gx_vA (.func (.func 60) #[] #[]) w14 (rl1 (hS15.box 1 rfl (Int.toNat x19) hj488)) (gx_kA (vP g0) w14 ?_))
 have hP489 : St _ _ w14 ([plE g0 zA zc A0_1 c0_1 zb zg zl zn p0_4 p0_5 p0_6 p0_7 p0_8 p0_9 p0_10 p0_11] ++ [boxE g1 rulC 35]) := hS15
 obtain ⟨⟨x491, b492⟩, hc490, hF485⟩ := bind_in hF485
 try dsimp only at hF485
 refine gx_cA _ (qSeparatorLetter_ok N zb zg zl zn p0_4 p0_5 p0_6 p0_7 p0_8 p0_9 p0_10 p0_11 g0 zA zc A0_1 c0_1 _ hc490 w14 (hP489.vwA hv0_0) (hP489.vwA hv0_1) hP489.part) ?_
 rintro _ w493 ⟨rfl, hT495⟩
 have hS494 : St _ _ w493 [boxE g1 rulC 35, plE g0 zA zc A0_1 c0_1 zb zg zl zn p0_4 p0_5 p0_6 p0_7 p0_8 p0_9 p0_10 p0_11] := hP489.lendN _ hT495
 refine gx_kA (.tuple #[.int .u8 x491, .bool b492]) w493 (gx_kA (.int .u8 x491) w493 (gx_kA (.bool b492) w493 (gx_kA (.int .u8 x491) w493 (gx_kA (.bool b492) w493 (gx_nil (gx_blkN (gx_thenN (hK27 _ _ (gx_region (gx_kA (i6 x19) w493 (gx_kA (i6 (iw (x19 + 1))) w493 (gx_kA (i6 (iw (x19 + 1))) w493 (gx_nil ?_)))))))))))))
 refine gx_thenN ?_
 exact ⟨k20, Nat.lt_succ_self k20, x491, b492, (iw (x19 + 1)), selfX, hF485, (hS494.pick [1, 0] rfl rfl)⟩
 rcases if_in hF485 with ⟨h496, hF497⟩ | ⟨h496, hF497⟩
 have hz498 : x19 = ((Int.toNat x19 : Nat) : Int) := by rw [h496]; rfl
 have hi499 : Int.toNat x19 < 43 := by rw [h496]; decide
 have hj500 : (rulC : List Value)[Int.toNat x19]? = some (.func (.func 61) #[] #[]) := by rw [h496]; rfl
 refine gx_vA (.pointer (some ⟨g1, (Int.toNat x19), none⟩)) w14 (run_ixarr (E := 34) (m := 43) (k := .i64) (i := Int.toNat x19) rfl (by as_aux_lemma => kernel_rfl) (by as_aux_lemma => kernel_rfl) hz498 (by as_aux_lemma => kernel_rfl) (fun _ => by kernel_rfl) hi499) (gx_vA (.func (.func 61) #[] #[]) w14 (rl1 (hS15.box 1 rfl (Int.toNat x19) hj500)) (gx_kA (vP g0) w14 ?_))
 have hP501 : St _ _ w14 ([plE g0 zA zc A0_1 c0_1 zb zg zl zn p0_4 p0_5 p0_6 p0_7 p0_8 p0_9 p0_10 p0_11] ++ [boxE g1 rulC 35]) := hS15
 obtain ⟨⟨x503, b504⟩, hc502, hF497⟩ := bind_in hF497
 try dsimp only at hF497
 refine gx_cA _ (qBesideBracket_ok N zb zg zl zn p0_4 p0_5 p0_6 p0_7 p0_8 p0_9 p0_10 p0_11 g0 zA zc A0_1 c0_1 _ hc502 w14 (hP501.vwA hv0_0) (hP501.vwA hv0_1) hP501.part) ?_
 rintro _ w505 ⟨rfl, hT507⟩
 have hS506 : St _ _ w505 [boxE g1 rulC 35, plE g0 zA zc A0_1 c0_1 zb zg zl zn p0_4 p0_5 p0_6 p0_7 p0_8 p0_9 p0_10 p0_11] := hP501.lendN _ hT507
 refine gx_kA (.tuple #[.int .u8 x503, .bool b504]) w505 (gx_kA (.int .u8 x503) w505 (gx_kA (.bool b504) w505 (gx_kA (.int .u8 x503) w505 (gx_kA (.bool b504) w505 (gx_nil (gx_blkN (gx_thenN (hK27 _ _ (gx_region (gx_kA (i6 x19) w505 (gx_kA (i6 (iw (x19 + 1))) w505 (gx_kA (i6 (iw (x19 + 1))) w505 (gx_nil ?_)))))))))))))
 refine gx_thenN ?_
 exact ⟨k20, Nat.lt_succ_self k20, x503, b504, (iw (x19 + 1)), selfX, hF497, (hS506.pick [1, 0] rfl rfl)⟩
 rcases if_in hF497 with ⟨h508, hF509⟩ | ⟨h508, hF509⟩
 have hz510 : x19 = ((Int.toNat x19 : Nat) : Int) := by rw [h508]; rfl
 have hi511 : Int.toNat x19 < 43 := by rw [h508]; decide
 have hj512 : (rulC : List Value)[Int.toNat x19]? = some (.func (.func 62) #[] #[]) := by rw [h508]; rfl
 refine gx_vA (.pointer (some ⟨g1, (Int.toNat x19), none⟩)) w14 (run_ixarr (E := 34) (m := 43) (k := .i64) (i := Int.toNat x19) rfl (by as_aux_lemma => kernel_rfl) (by as_aux_lemma => kernel_rfl) hz510 (by as_aux_lemma => kernel_rfl) (fun _ => by kernel_rfl) hi511) (gx_vA (.func (.func 62) #[] #[]) w14 (rl1 (hS15.box 1 rfl (Int.toNat x19) hj512)) (gx_kA (vP g0) w14 ?_))
 have hP513 : St _ _ w14 ([plE g0 zA zc A0_1 c0_1 zb zg zl zn p0_4 p0_5 p0_6 p0_7 p0_8 p0_9 p0_10 p0_11] ++ [boxE g1 rulC 35]) := hS15
 obtain ⟨⟨x515, b516⟩, hc514, hF509⟩ := bind_in hF509
 try dsimp only at hF509
 refine gx_cA _ (qWithinFlag_ok N zb zg zl zn p0_4 p0_5 p0_6 p0_7 p0_8 p0_9 p0_10 p0_11 g0 zA zc A0_1 c0_1 _ hc514 w14 (hP513.vwA hv0_0) (hP513.vwA hv0_1) hP513.part) ?_
 rintro _ w517 ⟨rfl, hT519⟩
 have hS518 : St _ _ w517 [boxE g1 rulC 35, plE g0 zA zc A0_1 c0_1 zb zg zl zn p0_4 p0_5 p0_6 p0_7 p0_8 p0_9 p0_10 p0_11] := hP513.lendN _ hT519
 refine gx_kA (.tuple #[.int .u8 x515, .bool b516]) w517 (gx_kA (.int .u8 x515) w517 (gx_kA (.bool b516) w517 (gx_kA (.int .u8 x515) w517 (gx_kA (.bool b516) w517 (gx_nil (gx_blkN (gx_thenN (hK27 _ _ (gx_region (gx_kA (i6 x19) w517 (gx_kA (i6 (iw (x19 + 1))) w517 (gx_kA (i6 (iw (x19 + 1))) w517 (gx_nil ?_)))))))))))))
 refine gx_thenN ?_
 exact ⟨k20, Nat.lt_succ_self k20, x515, b516, (iw (x19 + 1)), selfX, hF509, (hS518.pick [1, 0] rfl rfl)⟩
 rcases if_in hF509 with ⟨h520, hF521⟩ | ⟨h520, hF521⟩
 have hz522 : x19 = ((Int.toNat x19 : Nat) : Int) := by rw [h520]; rfl
 have hi523 : Int.toNat x19 < 43 := by rw [h520]; decide
 have hj524 : (rulC : List Value)[Int.toNat x19]? = some (.func (.func 63) #[] #[]) := by rw [h520]; rfl
 refine gx_vA (.pointer (some ⟨g1, (Int.toNat x19), none⟩)) w14 (run_ixarr (E := 34) (m := 43) (k := .i64) (i := Int.toNat x19) rfl (by as_aux_lemma => kernel_rfl) (by as_aux_lemma => kernel_rfl) hz522 (by as_aux_lemma => kernel_rfl) (fun _ => by kernel_rfl) hi523) (gx_vA (.func (.func 63) #[] #[]) w14 (rl1 (hS15.box 1 rfl (Int.toNat x19) hj524)) (gx_kA (vP g0) w14 ?_))
 have hP525 : St _ _ w14 ([plE g0 zA zc A0_1 c0_1 zb zg zl zn p0_4 p0_5 p0_6 p0_7 p0_8 p0_9 p0_10 p0_11] ++ [boxE g1 rulC 35]) := hS15
 obtain ⟨⟨x527, b528⟩, hc526, hF521⟩ := bind_in hF521
 try dsimp only at hF521
 refine gx_cA _ (qWithinPicture_ok N zb zg zl zn p0_4 p0_5 p0_6 p0_7 p0_8 p0_9 p0_10 p0_11 g0 zA zc A0_1 c0_1 _ hc526 w14 (hP525.vwA hv0_0) (hP525.vwA hv0_1) hP525.part) ?_
 rintro _ w529 ⟨rfl, hT531⟩
 have hS530 : St _ _ w529 [boxE g1 rulC 35, plE g0 zA zc A0_1 c0_1 zb zg zl zn p0_4 p0_5 p0_6 p0_7 p0_8 p0_9 p0_10 p0_11] := hP525.lendN _ hT531
 refine gx_kA (.tuple #[.int .u8 x527, .bool b528]) w529 (gx_kA (.int .u8 x527) w529 (gx_kA (.bool b528) w529 (gx_kA (.int .u8 x527) w529 (gx_kA (.bool b528) w529 (gx_nil (gx_blkN (gx_thenN (hK27 _ _ (gx_region (gx_kA (i6 x19) w529 (gx_kA (i6 (iw (x19 + 1))) w529 (gx_kA (i6 (iw (x19 + 1))) w529 (gx_nil ?_)))))))))))))
 refine gx_thenN ?_
 exact ⟨k20, Nat.lt_succ_self k20, x527, b528, (iw (x19 + 1)), selfX, hF521, (hS530.pick [1, 0] rfl rfl)⟩
 rcases if_in hF521 with ⟨h532, hF533⟩ | ⟨h532, hF533⟩
 have hz534 : x19 = ((Int.toNat x19 : Nat) : Int) := by rw [h532]; rfl
 have hi535 : Int.toNat x19 < 43 := by rw [h532]; decide
 have hj536 : (rulC : List Value)[Int.toNat x19]? = some (.func (.func 64) #[] #[]) := by rw [h532]; rfl
 refine gx_vA (.pointer (some ⟨g1, (Int.toNat x19), none⟩)) w14 (run_ixarr (E := 34) (m := 43) (k := .i64) (i := Int.toNat x19) rfl (by as_aux_lemma => kernel_rfl) (by as_aux_lemma => kernel_rfl) hz534 (by as_aux_lemma => kernel_rfl) (fun _ => by kernel_rfl) hi535) (gx_vA (.func (.func 64) #[] #[]) w14 (rl1 (hS15.box 1 rfl (Int.toNat x19) hj536)) (gx_kA (vP g0) w14 ?_))
 have hP537 : St _ _ w14 ([plE g0 zA zc A0_1 c0_1 zb zg zl zn p0_4 p0_5 p0_6 p0_7 p0_8 p0_9 p0_10 p0_11] ++ [boxE g1 rulC 35]) := hS15
 obtain ⟨⟨x539, b540⟩, hc538, hF533⟩ := bind_in hF533
 try dsimp only at hF533
 refine gx_cA _ (qElsewhere_ok N zb zg zl zn p0_4 p0_5 p0_6 p0_7 p0_8 p0_9 p0_10 p0_11 g0 zA zc A0_1 c0_1 _ hc538 w14 (hP537.vwA hv0_0) (hP537.vwA hv0_1) hP537.part) ?_
 rintro _ w541 ⟨rfl, hT543⟩
 have hS542 : St _ _ w541 [boxE g1 rulC 35, plE g0 zA zc A0_1 c0_1 zb zg zl zn p0_4 p0_5 p0_6 p0_7 p0_8 p0_9 p0_10 p0_11] := hP537.lendN _ hT543
 refine gx_kA (.tuple #[.int .u8 x539, .bool b540]) w541 (gx_kA (.int .u8 x539) w541 (gx_kA (.bool b540) w541 (gx_kA (.int .u8 x539) w541 (gx_kA (.bool b540) w541 (gx_nil (gx_blkN (gx_thenN (hK27 _ _ (gx_region (gx_kA (i6 x19) w541 (gx_kA (i6 (iw (x19 + 1))) w541 (gx_kA (i6 (iw (x19 + 1))) w541 (gx_nil ?_)))))))))))))
 refine gx_thenN ?_
 exact ⟨k20, Nat.lt_succ_self k20, x539, b540, (iw (x19 + 1)), selfX, hF533, (hS542.pick [1, 0] rfl rfl)⟩
 cases hF533
 try dsimp only at hL21
 refine gx_kA (.bool false) w14 (gx_nil (gx_thenN (hK25 _ _ (gx_no (by as_aux_lemma => kernel_rfl) (gx_exit (gx_thenE (gx_thenE ?_)))))))
 refine gx_blkE (gx_thenN ?_)
 exact ⟨x17, selfX, (sj hL21), hS15⟩
 rintro _ w5 ⟨x8, hq547, rfl, hS6⟩
 obtain ⟨u7, rfl⟩ := selfA_u hq547
 try dsimp only at hO11
 refine gx_seq (fun K545 hK546 => gx_region (gx_kA (.int .u8 x8) w5 (gx_kA (.int .u8 x8) w5 (gx_nil (gx_thenN (hK546 _ _ (gx_ret ?_)))))))
 obtain rfl := sj hO11
 exact gxF (.int .u8 x8) ⟨_, rfl, rfl, hS6⟩
end Go.Proofs.YtdbimchiecdkoaaGreat
