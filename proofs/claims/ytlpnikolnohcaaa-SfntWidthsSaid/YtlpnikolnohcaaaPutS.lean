/-
  What Put answers, as lists.
-/
import Derived.Test.YtlpnikolnohcaaaOr
namespace Go.Proofs.Ytlpnikolnohcaaa
open Go Go.RowKit

/-- how many bytes a letter's number has -/
def sizeC (c : Nat) : Nat := if c = 98 then 1 else if c = 72 then 2 else if c = 104 then 2 else if c = 73 then 4 else 0

/-- is a number in a letter's range? -/
def fitsC (c : Nat) (n : Int) : Bool :=
  if c = 98 then decide (0 ≤ n) && decide (n ≤ 255)
  else if c = 72 then decide (0 ≤ n) && decide (n ≤ 65535)
  else if c = 104 then decide (-32768 ≤ n) && decide (n ≤ 32767)
  else if c = 73 then decide (0 ≤ n) && decide (n ≤ 4294967295)
  else false

/-- the lowest k bytes, the highest one first -/
def lowB : Nat → Int → List Int
  | 0, _ => []
  | k + 1, n => (n / 256 ^ k) % 256 :: lowB k n

/-- the bytes of all, if each fits -/
def putR : List Int → List Nat → Option (List Int)
  | [], _ => some []
  | _ :: _, [] => none
  | n :: l, c :: p => if fitsC c n then (putR l p).map (lowB (sizeC c) n ++ ·) else none

def plan (s : ByteArray) : List Nat := s.data.toList.map UInt8.toNat

/-- what is answered: the error's number, the bytes -/
def putA (l : List Int) (s : ByteArray) : Int × List Int :=
  if l.length = s.size then
    match putR l (plan s) with
    | some b => (0, b)
    | none => (2, [])
  else (2, [])

/-- Put's contract -/
def PutC (f : FuncId) : Prop := ∀ (w : World) (v : Value) (l : List Int) (s : ByteArray), NumZ .i64 w v l → l.length ≤ 1000000 → s.size ≤ 1000000 →
  Calls Try.prog f #[v, .string s] w fun e w' => Below w.heap.size w w' ∧ ∃ r, e = .returned (.tuple #[r, .int .i64 (putA l s).1]) ∧ OwnB w.heap.size w' r (putA l s).2
end Go.Proofs.Ytlpnikolnohcaaa
