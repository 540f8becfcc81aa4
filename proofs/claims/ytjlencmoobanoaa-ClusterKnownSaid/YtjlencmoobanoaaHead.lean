/-
  The first statement of cluster.Bounds, whatever the order in which Go does it.
-/
import Derived.Test.YtjlencmoobanoaaOrd
import Derived.Laws.Tables
namespace Go.Proofs.Ytjlencmoobanoaa
open Go Go.RowKit

def lowB (ops : Array Oper) : Bool := (List.range ops.size).all fun i => match ops[i]? with
  | some o => o.after.all fun e => !Region.binds .any e || decide (e.on < i)
  | none => true

theorem low_of {ops : Array Oper} (h : lowB ops = true) : ∀ (i : Nat) o, ops[i]? = some o → ∀ e ∈ o.after, Region.binds .any e = true → e.on < i := by
  intro i o ho e he hb
  have hi : i < ops.size := (Array.getElem?_eq_some_iff.1 ho).1
  have h1 := List.all_eq_true.1 h i (List.mem_range.2 hi)
  rw [ho] at h1
  have h2 := Array.all_eq_true_iff_forall_mem.1 h1 e he
  rw [hb] at h2
  simpa using h2

theorem wp_store_row' {P : Program} {o : Oper} {a : Act} {w w' : World} {K : Act → World → Prop} {Q : Exit → Act → World → Prop} (ty : TypeId) (x y : Operand) (ho : o.op = .store ty x y) (X : Nat) (v : Value) (hx : a.eval x = .pointer (some ⟨X, 0, none⟩)) (hy : a.eval y = v) (hst : (storeVar ty ⟨X, 0, none⟩ v).run P w = .ok () w') (hK : K (a.put o.dst undef) w') : o.wp P a w K Q := by
  unfold Oper.wp execOp
  simp only [ho, hx, hy, Instr.storeAt, Instr.sureAddr, Sem.run_bind, Sem.run_pure, Result.andThen_ok, hst]
  exact hK

theorem wpList_store_row {P : Program} {ops : Array Oper} {rest : List Oper} {o : Oper} {a : Act} {w w' : World} {Q : Exit → Act → World → Prop} (hgd : o.guard = none) (ty : TypeId) (x y : Operand) (ho : o.op = .store ty x y) (X : Nat) (v : Value) (hx : a.eval x = .pointer (some ⟨X, 0, none⟩)) (hy : a.eval y = v) (hst : (storeVar ty ⟨X, 0, none⟩ v).run P w = .ok () w') (h : wpList P ops Q rest (a.put o.dst undef) w') : wpList P ops Q (o :: rest) a w :=
  wpList_plain hgd fun _ hK => wp_store_row' ty x y ho X v hx hy hst (hK _ _ h)

/-- what must be done ahead of an operation -/
def depsOf (ops : Array Oper) (i : Nat) : List Nat := match ops[i]? with
  | some o => (o.after.toList.filter (Region.binds .any)).map (·.on)
  | none => []

theorem deps_done {ops : Array Oper} {listed : Array Bool} {i : Nat} (h : i ∈ Region.ready .any ops listed) (d : Nat) (hd : d ∈ depsOf ops i) : listed.getD d false = true := by
  obtain ⟨_, o, ho, he⟩ := mem_ready.1 h
  unfold depsOf at hd
  rw [ho] at hd
  obtain ⟨e, hem, rfl⟩ := List.mem_map.1 hd
  obtain ⟨h1, h2⟩ := List.mem_filter.1 hem
  exact he e (by simpa using h1) h2

def HeadI (W : World) (g0 off N cap k0 : Nat) (x0 : Int) (b1 b2 b3 : Bool) (listed : Array Bool) (a : Act) (w : World) : Prop :=
  ∃ (c0 c1 c2 c3 c4 c5 c6 c7 c8 c9 c10 c11 : Bool) (t3 t4 t5 t14 t15 t16 t17 t18 t19 t20 t21 : Value) (sb lo hi g X : Nat), listed = #[c0, c1, c2, c3, c4, c5, c6, c7, c8, c9, c10, c11] ∧ a = ⟨#[.slice (some ⟨g0, off, none⟩) N cap, undef, .slice none 0 0, t3, t4, t5, undef, undef, undef, undef, undef, .slice (some ⟨g0, off, none⟩) N cap, .int .i64 (N : Int), .bool false, t14, t15, t16, t17, t18, t19, t20, t21, undef, undef, undef, undef, undef, undef, undef, undef, undef, undef, undef, undef, undef, undef, undef, undef, undef, undef, undef, undef, undef, undef, undef, undef, undef, undef, undef, undef, undef, undef, undef, undef, undef, undef, undef, undef, undef, undef, undef, undef, undef, undef], []⟩ ∧
  Below W.heap.size W w ∧
  w.cell? ⟨g0, off, none⟩ = some (.int .i32 x0) ∧
  (c0 = true → t14 = .slice (some ⟨sb, 0, none⟩) 1 1 ∧ W.heap.size ≤ sb ∧ sb < w.heap.size ∧ w.heap[sb]? = some (.cells #[.int .i64 0] 3 (0, 0))) ∧
  (c1 = true → t15 = .slice (some ⟨g, 0, none⟩) 11 11 ∧ RulesAt w lo hi g ∧ hi ≤ w.heap.size) ∧
  (c8 = true → t5 = .pointer (some ⟨X, 0, none⟩) ∧ W.heap.size ≤ X ∧ X < w.heap.size ∧ w.heap[X]? = some (.cells (if c11 then #[.int .u8 (k0 : Int), .bool b1, .bool b2, .bool b3] else #[.int .u8 0, .bool false, .bool false, .bool false]) 35 (0, 0))) ∧
  (c0 = true → c1 = true → sb < lo ∨ hi ≤ sb) ∧
  (c8 = true → c1 = true → X < lo ∨ hi ≤ X) ∧
  (c0 = true → c8 = true → sb ≠ X) ∧
  (c2 = true → t16 = .agg #[.int .u8 0, .bool false, .bool false, .bool false]) ∧
  (c3 = true → t17 = .slice (some ⟨g0, off, none⟩) N cap) ∧
  (c4 = true → t18 = .pointer (some ⟨g0, off, none⟩)) ∧
  (c5 = true → t19 = .int .i32 x0) ∧
  (c6 = true → t20 = .int .u8 (k0 : Int)) ∧
  (c7 = true → t21 = .agg #[.int .u8 (k0 : Int), .bool b1, .bool b2, .bool b3]) ∧
  (c9 = true → c0 = true ∧ t3 = t14) ∧
  (c10 = true → c1 = true ∧ t4 = t15) ∧
  (c11 = true → c8 = true)
end Go.Proofs.Ytjlencmoobanoaa
