/-
  Lists.
-/
set_option linter.unusedVariables false
namespace Jn
variable (ty : Int → Int)
/-- does it join what is behind; is it joined by what is ahead? -/
def opn (x : Int) : Bool := ty x == 2 || ty x == 3 || ty x == 5
def tkn (y : Int) : Bool := ty y == 1 || ty y == 2 || ty y == 3
def jn (x y : Int) : Bool := opn ty x && tkn ty y
/-- a form by the type, and by both sides -/
def form (t : Int) (a b : Bool) : Int :=
  if t = 1 then (if a then 4 else 1)
  else if t = 5 then (if b then 2 else 1)
  else if t = 2 then (if a then (if b then 3 else 4) else if b then 2 else 1)
  else 0
def pass (x : Int) : Bool := ty x == 4
/-- the next one that is not passed -/
def nxt : List Int → Option Int
  | [] => none
  | x :: t => if pass ty x then nxt t else some x
def jo (p : Option Int) (x : Int) : Bool := match p with | none => false | some u => jn ty u x
def jb (x : Int) (q : Option Int) : Bool := match q with | none => false | some v => jn ty x v
/-- what is ahead: the last one that is not passed -/
def fms : Option Int → List Int → List Int
  | _, [] => []
  | p, x :: t => form (ty x) (jo ty p x) (jb ty x (nxt ty t)) :: fms (if pass ty x then p else some x) t
theorem fms_len : ∀ (l : List Int) (p : Option Int), (fms ty p l).length = l.length
  | [], _ => rfl
  | x :: t, p => by simp [fms, fms_len t]
/-! ### what is passed changes nothing -/
theorem nxt_filter : ∀ l : List Int, nxt ty (l.filter fun x => !pass ty x) = nxt ty l
  | [] => rfl
  | x :: t => by
    cases h : pass ty x with
    | true => simp [h, nxt, nxt_filter t]
    | false => simp [h, nxt]
/-- the forms of those that are not passed -/
def sel : List Int → List Int → List Int
  | x :: l, f :: fs => if pass ty x then sel l fs else f :: sel l fs
  | _, _ => []
theorem sel_fms : ∀ (l : List Int) (p : Option Int), sel ty l (fms ty p l) = fms ty p (l.filter fun x => !pass ty x)
  | [], _ => rfl
  | x :: t, p => by
    cases h : pass ty x with
    | true => simp only [fms, sel, h, if_true, List.filter_cons, Bool.not_true, Bool.false_eq_true, if_false]; exact sel_fms t p
    | false =>
      simp only [fms, sel, h, Bool.false_eq_true, if_false, List.filter_cons, Bool.not_false, if_true, nxt_filter]
      rw [sel_fms t (some x)]
theorem fms_pass {x : Int} (h : pass ty x = true) (a b : Bool) : form (ty x) a b = 0 := by
  have : ty x = 4 := by simpa [pass] using h
  simp [form, this]
/-! ### cut where two do not join -/
def clean (l : List Int) : Prop := ∀ x ∈ l, pass ty x = false
theorem nxt_clean {y : Int} {t : List Int} (h : clean ty (y :: t)) : nxt ty (y :: t) = some y := by simp [nxt, h y (by simp)]
theorem fms_start {p : Option Int} : ∀ {l : List Int}, clean ty l → (∀ y, l.head? = some y → jo ty p y = false) → fms ty p l = fms ty none l
  | [], _, _ => rfl
  | y :: t, hc, h => by
    have e := h y rfl
    simp only [fms, e, hc y (by simp), Bool.false_eq_true, if_false]
    rfl
theorem fms_cut : ∀ (a b : List Int) (p : Option Int), clean ty a → clean ty b → (∀ x y, a.getLast? = some x → b.head? = some y → jn ty x y = false) → a ≠ [] → fms ty p (a ++ b) = fms ty p a ++ fms ty none b
  | [], b, p, _, _, _, h => absurd rfl h
  | [x], b, p, ha, hb, hj, _ => by
    have hx := ha x (by simp)
    cases b with
    | nil => simp [fms]
    | cons y t =>
      have e := hj x y rfl rfl
      have hs := fms_start ty (p := some x) hb (fun z hz => by simp only [List.head?_cons, Option.some.injEq] at hz; subst hz; exact e)
      simp only [List.singleton_append, fms, hx, Bool.false_eq_true, if_false] at hs ⊢
      rw [nxt_clean ty hb]
      simp only [nxt, jb, e]
      exact congrArg _ hs
  | x :: z :: t, b, p, ha, hb, hj, _ => by
    have ih := fms_cut (z :: t) b (some x) (fun w hw => ha w (by simp [hw])) hb (fun u v hu hv => hj u v (by simpa using hu) hv) (by simp)
    have hx := ha x (by simp)
    have n1 : nxt ty (z :: t ++ b) = some z := by simp [nxt, ha z (by simp)]
    have n2 : nxt ty (z :: t) = some z := by simp [nxt, ha z (by simp)]
    rw [List.cons_append, fms, n1, fms, n2, hx]
    simp only [Bool.false_eq_true, if_false, List.cons_append]
    exact congrArg _ ih
theorem fms_take (l : List Int) (hc : clean ty l) (k : Nat) (hk : k ≤ l.length) (hj : ∀ x y, 0 < k → l[k - 1]? = some x → l[k]? = some y → jn ty x y = false) :
    fms ty none (l.take k) = (fms ty none l).take k ∧ fms ty none (l.drop k) = (fms ty none l).drop k := by
  rcases Nat.eq_zero_or_pos k with rfl | h0
  · simp [fms]
  · have hl : (l.take k).length = k := by rw [List.length_take]; omega
    have e : fms ty none l = fms ty none (l.take k) ++ fms ty none (l.drop k) := by
      conv => lhs; rw [← List.take_append_drop k l]
      refine fms_cut ty _ _ none (fun x hx => hc x (List.mem_of_mem_take hx)) (fun x hx => hc x (List.mem_of_mem_drop hx)) (fun x y hx hy => ?_) (by intro h; rw [h] at hl; simp at hl; omega)
      refine hj x y h0 ?_ ?_
      · rw [List.getLast?_eq_getElem?, hl, List.getElem?_take] at hx
        rw [if_pos (by omega)] at hx
        exact hx
      · rw [List.head?_drop] at hy; exact hy
    have hf : (fms ty none (l.take k)).length = k := by rw [fms_len, hl]
    rw [e]
    exact ⟨(List.take_left' hf).symm, (List.drop_left' hf).symm⟩
/-! ### neighbours agree -/
/-- joined by what is ahead; joins what is behind, by the form -/
def jd (f : Int) : Bool := f == 3 || f == 4
/-- of two neighbours: what is asked -/
def agr (u f : Int) (v g : Int) : Bool := !((jd g && !(f == 3 || f == 2 || ty u == 3)) || (f == 2 && ty v != 3 && !jd g))
theorem agr_ok (u v : Int) (a b : Bool) (c d : Bool) (hb : b = jn ty u v) (hc : c = jn ty u v) : agr ty u (form (ty u) a b) v (form (ty v) c d) = true := by
  subst hb; subst hc
  unfold agr jd jn opn tkn form
  by_cases u1 : ty u = 1 <;> by_cases u2 : ty u = 2 <;> by_cases u3 : ty u = 3 <;> by_cases u5 : ty u = 5 <;> by_cases v1 : ty v = 1 <;> by_cases v2 : ty v = 2 <;> by_cases v3 : ty v = 3 <;> by_cases v5 : ty v = 5 <;>
    first
    | omega
    | (cases a <;> cases d <;> simp [u1, u2, u3, u5, v1, v2, v3, v5])
theorem jd_none (v : Int) (d : Bool) : jd (form (ty v) false d) = false := by
  unfold jd form
  by_cases v1 : ty v = 1 <;> by_cases v2 : ty v = 2 <;> by_cases v5 : ty v = 5 <;> first | omega | (cases d <;> simp [v1, v2, v5])
end Jn
