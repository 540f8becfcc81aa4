/-
  Results that lie in cells.
-/
import Derived.Test.YtbdhgjaoojimmaaDoorGu
import Derived.Test.YtbdhgjaoojimmaaDoorRf
namespace Go.Proofs.YtbdhgjaoojimmaaDoor
open Go Go.RowKit
set_option linter.unusedVariables false
set_option linter.unusedSimpArgs false
section
variable {P : Program} {w : World} {fn : Func}
theorem run_loadVar1 {T : TypeId} {p : Addr} {v : Value} (hT : (isAgg T).run P w = .ok false w) (hc : w.cell? p = some v) : (loadVar T p).run P w = .ok v w := by
  simp only [loadVar, Sem.run_bind, hT, Result.andThen_ok]
  simp [load, Sem.run, hc, Result.andThen]
theorem res_c1 {p : Tmp} {ty : TypeId} {tmps : Array Value} {q : Addr} {v : Value} (h : fn.results = #[.cell p ty]) (hp : tmps.getD p undef = .pointer (some q)) (hT : (isAgg ty).run P w = .ok false w) (hc : w.cell? q = some v) :
    (results fn tmps).run P w = .ok v w := by
  have hp' : tmps[p]?.getD undef = .pointer (some q) := by simpa using hp
  simp [results, h, hp', asAddr, run_loadVar1 hT hc]
theorem res_c2 {p p2 : Tmp} {ty ty2 : TypeId} {tmps : Array Value} {q q2 : Addr} {v v2 : Value} (h : fn.results = #[.cell p ty, .cell p2 ty2]) (hp : tmps.getD p undef = .pointer (some q)) (hT : (isAgg ty).run P w = .ok false w) (hc : w.cell? q = some v)
    (hp2 : tmps.getD p2 undef = .pointer (some q2)) (hT2 : (isAgg ty2).run P w = .ok false w) (hc2 : w.cell? q2 = some v2) :
    (results fn tmps).run P w = .ok (.tuple #[v, v2]) w := by
  have hp' : tmps[p]?.getD undef = .pointer (some q) := by simpa using hp
  have hp2' : tmps[p2]?.getD undef = .pointer (some q2) := by simpa using hp2
  simp [results, h, hp', hp2', asAddr, run_loadVar1 hT hc, run_loadVar1 hT2 hc2]
theorem run_yieldcall2 {o : Oper} {ρ : Operand → Value} {x y z : Operand} {T T2 l : Nat} {v v2 : Value} (ho : o.op = .call { callee := .value x, args := #[y, z], argTypes := #[T, T2] }) (hx : ρ x = .func (.yield l) #[] #[]) (hy : ρ y = v) (hz : ρ z = v2) :
    (execOp ρ o).run P w = (Instr.yield l #[v, v2]).run P w := by
  unfold execOp
  simp [ho, resolve, hx, hy, hz, invoke, go_sem]
end
end Go.Proofs.YtbdhgjaoojimmaaDoor
