/-
  Structs of numbers, compared.
-/
import Derived.Test.YtbdhgjaoojimmaaDoorGv
import Derived.Laws.StructEq
import Derived.Laws.Cover4
namespace Go.Proofs.YtbdhgjaoojimmaaDoor
open Go Go.RowKit
set_option linter.unusedVariables false
/-- all fields are numbers, in their order, from a place on -/
def okInts (P : Program) : Nat → List Field → Bool
  | _, [] => true
  | j, f :: fs => (f.name != "_") && (f.offset == j) && (match P.underlying f.type with | some (.int _) => true | _ => false) && okInts P (j + 1) fs
/-- numbers with their kinds, as cells -/
def intsV (l : List (IntKind × Int)) : List Value := l.map fun x => .int x.1 x.2
section
variable {P : Program} {w : World} {ρ : Operand → Value} {o : Oper}
theorem run_part_int {t : TypeId} {k : IntKind} {cs : Array Value} {j : Nat} {v : Value} (ht : P.underlying t = some (.int k)) (hv : cs[j]? = some v) : (part t cs j).run P w = .ok v w := by
  unfold part isAgg
  simp [run_underlying ht, Result.andThen, hv]
theorem eqFields_ints (d : Nat) : ∀ (fs : List Field) (j : Nat) (xs ys : Array Value) (l m : List (IntKind × Int)), okInts P j fs = true → l.map (·.1) = m.map (·.1) → l.length = fs.length → xs.toList.drop j = intsV l → ys.toList.drop j = intsV m →
    (Op.eqFields (d + 1) xs ys fs).run P w = .ok (decide (l.map (·.2) = m.map (·.2))) w
  | [], j, xs, ys, l, m, _, hk, hl, _, _ => by
    have : l = [] := List.length_eq_zero_iff.1 hl
    subst this
    have : m = [] := by cases m with | nil => rfl | cons _ _ => simp at hk
    subst this
    simp [Op.eqFields]
  | f :: fs, j, xs, ys, l, m, ho, hk, hl, hx, hy => by
    match l, m, hl with
    | (k, a) :: l, m, hl =>
    match m, hk with
    | (k', b) :: m, hk =>
    simp only [List.map_cons, List.cons.injEq] at hk
    obtain ⟨rfl, hk⟩ := hk
    unfold okInts at ho
    simp only [Bool.and_eq_true, bne_iff_ne, ne_eq, beq_iff_eq] at ho
    obtain ⟨⟨⟨hn, hoff⟩, hty⟩, ho⟩ := ho
    obtain ⟨kk, hT⟩ : ∃ kk, P.underlying f.type = some (.int kk) := by
      revert hty
      cases P.underlying f.type with
      | none => simp
      | some u => cases u <;> simp
    have e1 : xs[j]? = some (.int k a) := by
      have : xs.toList[j]? = some (.int k a) := by rw [← List.head?_drop, hx]; rfl
      simpa using this
    have e2 : ys[j]? = some (.int k b) := by
      have : ys.toList[j]? = some (.int k b) := by rw [← List.head?_drop, hy]; rfl
      simpa using this
    have d1 : xs.toList.drop (j + 1) = intsV l := by rw [← List.tail_drop, hx]; rfl
    have d2 : ys.toList.drop (j + 1) = intsV m := by rw [← List.tail_drop, hy]; rfl
    have ih := eqFields_ints d fs (j + 1) xs ys l m ho hk (by simpa using hl) d1 d2
    unfold Op.eqFields
    rw [if_pos hn, hoff]
    simp only [Sem.run_bind, run_part_int hT e1, run_part_int hT e2, Result.andThen_ok, run_equalIn_int w d f.type k kk a b hT]
    by_cases h : a = b
    · subst h
      simp only [beq_self_eq_true, Bool.not_true, Bool.false_eq_true, if_false, ih, List.map_cons, List.cons.injEq, true_and]
    · have : (a == b) = false := by simpa using h
      simp only [this, Bool.not_false, if_true, Sem.run_pure, List.map_cons, List.cons.injEq, h, false_and, decide_false]
theorem run_eqS {T T' : Nat} {x y : Operand} {l m : List (IntKind × Int)} {b : Bool} (ne : Bool) (ho : o.op = .binOp (if ne then .neq else .eql) T x y T') (hx : ρ x = .agg (intsV l).toArray) (hy : ρ y = .agg (intsV m).toArray)
    (hg : P.eqGuardType P.depth T = false) (ht : P.underlying T = some (.struct (P.fieldsOf T))) (hp : P.stoodInHeld T = false) (hi : okInts P 0 (P.fieldsOf T).toList = true) (hk : l.map (·.1) = m.map (·.1)) (hl : l.length = (P.fieldsOf T).toList.length)
    (hb : some (decide (l.map (·.2) = m.map (·.2)) ^^ ne) = some b) : (execOp ρ o).run P w = .ok (.value (.bool b)) w := by
  have h := eqFields_ints (w := w) 9998 (P.fieldsOf T).toList 0 (intsV l).toArray (intsV m).toArray l m hi hk hl rfl rfl
  obtain rfl := Option.some.inj hb
  unfold execOp
  rw [ho]
  cases ne
  · simp only [Bool.false_eq_true, if_false, hx, hy, Sem.run_bind, run_eqGuard_agg w _ _ _ _ _ _ hg, Result.andThen_ok, run_eql_struct, run_equalIn_agg w 9999 T _ _ ht hp, h, Sem.run_pure]
    simp
  · simp only [if_true, hx, hy, Sem.run_bind, run_eqGuard_agg w _ _ _ _ _ _ hg, Result.andThen_ok, run_neq_struct, run_equalIn_agg w 9999 T _ _ ht hp, h, Sem.run_pure]
    simp
end
/-- runes as a string -/
theorem conv_r (w : World) (v : Value) (l : List Int) (h : NumZ .i32 w v l) : (convert 22 9 v).run Tryd.prog w = .ok (.string (runesBytes l)) w := by
  obtain ⟨A, c, rfl, hc, _, hx⟩ := h
  by_cases hne : l = []
  · subst hne
    cases A with
    | none => exact run_convert_runes_nil (P := Tryd.prog) w 22 9 21 _ _ Tryd.underlying22 Tryd.underlying21 Tryd.underlying9
    | some ad => exact run_convert_runes (P := Tryd.prog) w 22 9 21 ad 0 c [] (Nat.le_refl _) Tryd.underlying22 Tryd.underlying21 Tryd.underlying9 (fun j hj => by cases hj)
  · obtain ⟨g, off, rfl, hg, hcell⟩ := hx hne
    have := run_convert_runes (P := Tryd.prog) w 22 9 21 ⟨g, off, none⟩ l.length c l (Nat.le_refl _) Tryd.underlying22 Tryd.underlying21 Tryd.underlying9 (fun j hj => by rw [add_flat, hcell j hj]; simp [hj])
    rw [List.take_length] at this
    exact this
end Go.Proofs.YtbdhgjaoojimmaaDoor
