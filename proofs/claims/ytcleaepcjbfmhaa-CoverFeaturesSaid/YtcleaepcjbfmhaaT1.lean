/-
  Readers.
-/
import Derived.Test.YtcleaepcjbfmhaaGm
namespace Go.Proofs.Ytcleaepcjbfmhaa
open Go Go.RowKit

def rTwo (_N : Nat) (p0 : Int) : Option (List Int) :=
  some ([(IntKind.u8.wrap (Int.fdiv p0 256)), (IntKind.u8.wrap p0)])

def rTwo_R (r : List Int) (w0 : World) (v : Value) (w : World) : Prop := ∃ (A0' : Option Addr) (c0' : Nat), v = .slice A0' r.length c0' ∧ St [] w0 w [rowE .u8 5 A0' c0' r]

def rPutCov_L1 (N : Nat) (p0 : List Int) : Nat → List Int → Int → Option (Ctl (List Int) (List Int × Int))
  | 0, _, _ => none
  | k56+1, l54, x55 => (if x55 < ((p0.length : Nat) : Int) then (((if x55 > 0 then ((ix p0 x55).bind fun x76 => ((ix p0 (IntKind.i64.wrap (x55 - 1))).bind fun x78 => (if x76 ≤ x78 then some (Ctl.ret ([], 2)) else some (Ctl.go ())))) else some (Ctl.go ())) : Option (Ctl (Unit) (List Int × Int))).bind fun | Ctl.go () => ((ix p0 x55).bind fun x84 => ((rTwo N (IntKind.i64.wrap x84)).bind fun l90 => ((apx l54 l90).bind fun l94 => rPutCov_L1 N p0 k56 l94 (IntKind.i64.wrap (x55 + 1))))) | Ctl.ret r => some (Ctl.ret r)) else some (Ctl.go l54))
def rPutCov (N : Nat) (p0 : List Int) : Option (List Int × Int) :=
  (((if ((p0.length : Nat) : Int) < 1 then some (Ctl.ret ([], 2)) else (if ((p0.length : Nat) : Int) > 65535 then some (Ctl.ret ([], 2)) else some (Ctl.go ()))) : Option (Ctl (Unit) (List Int × Int))).bind fun | Ctl.go () => ((rTwo N ((p0.length : Nat) : Int)).bind fun l27 => ((apx ([0, 1]) l27).bind fun l31 => ((rPutCov_L1 N p0 N l31 0 : Option (Ctl (List Int) (List Int × Int))).bind fun | Ctl.go l43 => some (l43, 0) | Ctl.ret r => some r))) | Ctl.ret r => some r)

def rPutCov_R (r : List Int × Int) (w0 : World) (v : Value) (w : World) : Prop := ∃ (A0' : Option Addr) (c0' : Nat), v = .tuple #[.slice A0' r.1.length c0', .int .i64 r.2] ∧ St [] w0 w [rowE .u8 5 A0' c0' r.1]

end Go.Proofs.Ytcleaepcjbfmhaa
