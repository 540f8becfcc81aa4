/-
  Joined.
-/
set_option linter.unusedVariables false
namespace It
structure Dat where
  scr : Int → Int
  sep : Int → Bool
  brk : Int → Option (Int × Bool)
  low : ∀ x, 0 ≤ scr x
  plain : ∀ x, brk x ≠ none → scr x = 0
variable (D : Dat)
def own (x : Int) : Bool := decide (1 < D.scr x)
def beh : List Int → Int
  | [] => 0
  | x :: t => if own D x then D.scr x else if D.sep x then 0 else beh t
def pop (c : Int) : List (Int × Int) → Option (Int × List (Int × Int))
  | [] => none
  | (d, s) :: t => if d = c then some (s, t) else pop c t
def now (last x : Int) : Int := if own D x then D.scr x else last
def at_ (last x : Int) (t : List Int) : Int := if now D last x = 0 then beh D (x :: t) else now D last x
def step (last : Int) (st : List (Int × Int)) (x : Int) (t : List Int) : Int × Int × List (Int × Int) :=
  match D.brk x with
  | none => (at_ D last x t, now D last x, st)
  | some (c, true) => (at_ D last x t, now D last x, if st.length < 64 then (c, at_ D last x t) :: st else st)
  | some (c, false) => match pop c st with
    | none => (at_ D last x t, now D last x, st)
    | some (s, st') => (s, s, st')
def scF (last : Int) (st : List (Int × Int)) : List Int → List Int
  | [] => []
  | x :: t => (step D last st x t).1 :: (if D.sep x then scF 0 [] t else scF (step D last st x t).2.1 (step D last st x t).2.2 t)
def scripts (l : List Int) : List Int := scF D 0 [] l
theorem scF_len : ∀ (l : List Int) (last : Int) (st : List (Int × Int)), (scF D last st l).length = l.length
  | [], _, _ => rfl
  | x :: t, last, st => by unfold scF; split <;> simp [scF_len t]
theorem beh_end {e : Int} (he : D.sep e = true) (b : List Int) : ∀ a : List Int, beh D (a ++ e :: b) = beh D (a ++ [e])
  | [] => by simp [beh, he]
  | x :: a => by simp only [List.cons_append, beh, beh_end he b a]
theorem step_end {e : Int} (he : D.sep e = true) (b : List Int) (last : Int) (st : List (Int × Int)) (x : Int) (a : List Int) : step D last st x (a ++ e :: b) = step D last st x (a ++ [e]) := by
  have h : at_ D last x (a ++ e :: b) = at_ D last x (a ++ [e]) := by
    unfold at_
    have := beh_end D he b (x :: a)
    simp only [List.cons_append] at this
    rw [this]
  unfold step
  rw [h]
theorem step_last {e : Int} (he : D.sep e = true) (b : List Int) (last : Int) (st : List (Int × Int)) : step D last st e b = step D last st e [] := by
  have h : at_ D last e b = at_ D last e [] := by
    unfold at_
    have := beh_end D he b []
    simp only [List.nil_append] at this
    rw [this]
  unfold step
  rw [h]
theorem scF_parts {e : Int} (he : D.sep e = true) (b : List Int) : ∀ (a : List Int) (last : Int) (st : List (Int × Int)), scF D last st (a ++ e :: b) = scF D last st (a ++ [e]) ++ scripts D b
  | [], last, st => by
    simp only [List.nil_append, scF, he, if_true, step_last D he b]
    rfl
  | x :: a, last, st => by
    simp only [List.cons_append, scF, step_end D he b]
    split
    · rw [scF_parts he b a]
    · rw [scF_parts he b a]
theorem scripts_parts {e : Int} (he : D.sep e = true) (a b : List Int) : scripts D (a ++ e :: b) = scripts D (a ++ [e]) ++ scripts D b := scF_parts D he b a 0 []
theorem step_own (last : Int) (st : List (Int × Int)) (x : Int) (t : List Int) (h : 1 < D.scr x) : (step D last st x t).1 = D.scr x := by
  have hb : D.brk x = none := by
    cases hx : D.brk x with
    | none => rfl
    | some y => have := D.plain x (by rw [hx]; simp); omega
  have ho : own D x = true := by simp [own, h]
  unfold step
  rw [hb]
  simp only [at_, now, ho, if_true]
  rw [if_neg (by omega)]
def OkSt (st : List (Int × Int)) (t : List Int) : Prop := ∀ d s, (d, s) ∈ st → s = 0 → beh D t = 0
theorem pop_mem {c : Int} : ∀ {st st' : List (Int × Int)} {s : Int}, pop c st = some (s, st') → (∃ d, (d, s) ∈ st) ∧ ∀ y ∈ st', y ∈ st
  | [], _, _, h => by simp [pop] at h
  | (d, s0) :: t, st', s, h => by
    unfold pop at h
    split at h
    · simp only [Option.some.injEq, Prod.mk.injEq] at h
      obtain ⟨rfl, rfl⟩ := h
      exact ⟨⟨d, List.mem_cons_self ..⟩, fun y hy => List.mem_cons_of_mem _ hy⟩
    · obtain ⟨⟨e, he⟩, h2⟩ := pop_mem h
      exact ⟨⟨e, List.mem_cons_of_mem _ he⟩, fun y hy => List.mem_cons_of_mem _ (h2 y hy)⟩
theorem step_ok {last : Int} {st : List (Int × Int)} {x : Int} {t : List Int} (hs : D.sep x = false) (h : OkSt D st (x :: t)) :
    ((step D last st x t).2.1 ≠ 0 → (step D last st x t).2.1 = (step D last st x t).1) ∧ ((step D last st x t).2.1 = 0 → (step D last st x t).1 = beh D t) ∧ OkSt D (step D last st x t).2.2 t := by
  have hb : own D x = false → beh D (x :: t) = beh D t := by intro ho; simp [beh, ho, hs]
  have h0 : ∀ s : Int, s = at_ D last x t → (now D last x ≠ 0 → now D last x = s) ∧ (now D last x = 0 → s = beh D t) := by
    intro s e
    subst e
    unfold at_
    refine ⟨fun h1 => by rw [if_neg h1], fun h1 => ?_⟩
    rw [if_pos h1]
    apply hb
    cases ho : own D x with
    | false => rfl
    | true =>
      have : D.scr x = 0 := by unfold now at h1; rw [if_pos ho] at h1; exact h1
      simp only [own, decide_eq_true_eq] at ho
      omega
  -- what waits, behind it
  have hst : own D x = false → OkSt D st t := fun ho d s hm hz => by rw [← hb ho]; exact h d s hm hz
  have hstO : own D x = true → ∀ d s, (d, s) ∈ st → s ≠ 0 := by
    intro ho d s hm hz
    have := h d s hm hz
    simp only [beh, ho, if_true] at this
    simp only [own, decide_eq_true_eq] at ho
    omega
  have hst' : OkSt D st t := by
    cases ho : own D x with
    | false => exact hst ho
    | true => exact fun d s hm hz => absurd hz (hstO ho d s hm)
  unfold step
  cases hx : D.brk x with
  | none => exact ⟨(h0 _ rfl).1, (h0 _ rfl).2, hst'⟩
  | some y =>
    obtain ⟨c, o⟩ := y
    have ho : own D x = false := by have := D.plain x (by rw [hx]; simp); simp [own, this]
    cases o with
    | true =>
      refine ⟨(h0 _ rfl).1, (h0 _ rfl).2, ?_⟩
      show OkSt D (if st.length < 64 then (c, at_ D last x t) :: st else st) t
      split
      · intro d s hm hz
        rcases List.mem_cons.1 hm with e | hm
        · simp only [Prod.mk.injEq] at e
          obtain ⟨rfl, rfl⟩ := e
          have hn : now D last x = 0 := by
            cases hd : decide (now D last x = 0) with
            | true => simpa using hd
            | false =>
              have hn : now D last x ≠ 0 := by simpa using hd
              have := (h0 _ rfl).1 hn
              rw [hz] at this
              exact absurd this hn
          rw [← (h0 _ rfl).2 hn]; exact hz
        · exact hst' d s hm hz
      · exact hst'
    | false =>
      simp only
      cases hp : pop c st with
      | none => exact ⟨(h0 _ rfl).1, (h0 _ rfl).2, hst'⟩
      | some z =>
        obtain ⟨s, st'⟩ := z
        obtain ⟨⟨d, hd⟩, h2⟩ := pop_mem hp
        refine ⟨fun _ => rfl, fun hz => ?_, fun d' s' hm hz => hst' d' s' (h2 _ hm) hz⟩
        have hz : s = 0 := hz
        show s = beh D t
        rw [hz, hst' d s hd hz]
theorem step_mark (last : Int) (st : List (Int × Int)) (x : Int) (t : List Int) (h : D.scr x = 1) : (step D last st x t).1 = if last = 0 then beh D (x :: t) else last := by
  have hb : D.brk x = none := by
    cases hx : D.brk x with
    | none => rfl
    | some y => have := D.plain x (by rw [hx]; simp); omega
  have ho : own D x = false := by simp [own, h]
  unfold step
  rw [hb]
  simp only [at_, now, ho]
  rfl
theorem scF_marks : ∀ (l : List Int) (last : Int) (st : List (Int × Int)), OkSt D st l → ∀ (i : Nat) (x y s : Int), l[i]? = some x → l[i + 1]? = some y → D.sep x = false → D.scr y = 1 → (scF D last st l)[i]? = some s → (scF D last st l)[i + 1]? = some s
  | [], _, _, _, i, x, y, s, h, _, _, _, _ => by simp at h
  | [z], _, _, _, i, x, y, s, _, h, _, _, _ => by simp at h
  | z :: w :: t, last, st, hok, 0, x, y, s, h1, h2, hs, hy, h3 => by
    simp only [List.getElem?_cons_zero, Option.some.injEq] at h1
    simp only [Nat.zero_add, List.getElem?_cons_succ, List.getElem?_cons_zero, Option.some.injEq] at h2
    subst h1; subst h2
    obtain ⟨a, b, _⟩ := step_ok D hs hok (last := last)
    rw [scF] at h3 ⊢
    simp only [List.getElem?_cons_zero, Option.some.injEq] at h3
    rw [hs, if_neg (by decide), List.getElem?_cons_succ, scF, List.getElem?_cons_zero, step_mark D _ _ _ _ hy]
    split
    · rename_i e; rw [← b e, h3]
    · rename_i e; rw [a e, h3]
  | z :: w :: t, last, st, hok, i + 1, x, y, s, h1, h2, hs, hy, h3 => by
    rw [List.getElem?_cons_succ] at h1 h2
    rw [scF, List.getElem?_cons_succ] at h3 ⊢
    by_cases hz : D.sep z = true
    · rw [if_pos hz] at h3 ⊢
      exact scF_marks (w :: t) 0 [] (fun d s hm => by cases hm) i x y s h1 h2 hs hy h3
    · rw [if_neg hz] at h3 ⊢
      exact scF_marks (w :: t) _ _ (step_ok D (by simpa using hz) hok).2.2 i x y s h1 h2 hs hy h3
theorem scF_own : ∀ (l : List Int) (last : Int) (st : List (Int × Int)), ∀ (i : Nat) (x : Int), l[i]? = some x → 1 < D.scr x → (scF D last st l)[i]? = some (D.scr x)
  | [], _, _, i, x, h, _ => by simp at h
  | z :: t, last, st, 0, x, h, hx => by
    simp only [List.getElem?_cons_zero, Option.some.injEq] at h
    subst h
    rw [scF, List.getElem?_cons_zero, step_own D _ _ _ _ hx]
  | z :: t, last, st, i + 1, x, h, hx => by
    rw [List.getElem?_cons_succ] at h
    rw [scF, List.getElem?_cons_succ]
    split
    · exact scF_own t 0 [] i x h hx
    · exact scF_own t _ _ i x h hx
end It

set_option linter.unusedVariables false
namespace It
abbrev Rn := Int × Int × Int × Int
abbrev Zc := Int × Int × Bool
def rnF (f i v s : Int) (b : Bool) : List Zc → List Rn
  | [] => [(f, i, v, s)]
  | (v', s', b') :: t => if (v == v' && s == s' && !b) = true then rnF f (i + 1) v s b' t else (f, i, v, s) :: rnF i (i + 1) v' s' b' t
def runsAt (k : Int) : List Zc → List Rn
  | [] => []
  | (v, s, b) :: t => rnF k (k + 1) v s b t
def shift (k : Int) (r : Rn) : Rn := (r.1 + k, r.2.1 + k, r.2.2)
theorem rnF_shift (k : Int) : ∀ (t : List Zc) (f i v s : Int) (b : Bool), rnF (f + k) (i + k) v s b t = (rnF f i v s b t).map (shift k)
  | [], f, i, v, s, b => rfl
  | (v', s', b') :: t, f, i, v, s, b => by
    simp only [rnF]
    have e : i + k + 1 = i + 1 + k := by omega
    split
    · rw [e, rnF_shift k t]
    · rw [e, rnF_shift k t]; rfl
theorem runsAt_shift (k : Int) (Z : List Zc) : runsAt k Z = (runsAt 0 Z).map (shift k) := by
  cases Z with
  | nil => rfl
  | cons z t =>
    obtain ⟨v, s, b⟩ := z
    simp only [runsAt]
    rw [← rnF_shift]
    congr 1 <;> omega
theorem rnF_parts (Z : List Zc) : ∀ (A : List Zc) (f i v s : Int) (b : Bool), (A = [] → b = true) → (∀ z, A.getLast? = some z → z.2.2 = true) → rnF f i v s b (A ++ Z) = rnF f i v s b A ++ runsAt (i + A.length) Z
  | [], f, i, v, s, b, h, _ => by
    obtain rfl := h rfl
    cases Z with
    | nil => simp [rnF, runsAt]
    | cons z t =>
      obtain ⟨v', s', b'⟩ := z
      simp [rnF, runsAt]
  | (v', s', b') :: A, f, i, v, s, b, _, h => by
    have h1 : A = [] → b' = true := fun e => by subst e; exact h _ rfl
    have h2 : ∀ z, A.getLast? = some z → z.2.2 = true := fun z hz => by
      cases A with
      | nil => cases hz
      | cons y A => exact h z (by rw [List.getLast?_cons_cons]; exact hz)
    simp only [List.cons_append, rnF, List.length_cons]
    have e : i + ((A.length + 1 : Nat) : Int) = i + 1 + A.length := by omega
    rw [e]
    split
    · rw [rnF_parts Z A _ _ _ _ _ h1 h2]
    · rw [rnF_parts Z A _ _ _ _ _ h1 h2]; rfl
theorem runs_parts (A Z : List Zc) (h0 : A ≠ []) (h : ∀ z, A.getLast? = some z → z.2.2 = true) : runsAt 0 (A ++ Z) = runsAt 0 A ++ (runsAt 0 Z).map (shift A.length) := by
  cases A with
  | nil => exact absurd rfl h0
  | cons z A =>
    obtain ⟨v, s, b⟩ := z
    have h1 : A = [] → b = true := fun e => by subst e; exact h _ rfl
    have h2 : ∀ z, A.getLast? = some z → z.2.2 = true := fun z hz => by
      cases A with
      | nil => cases hz
      | cons y A => exact h z (by rw [List.getLast?_cons_cons]; exact hz)
    rw [← runsAt_shift]
    show rnF 0 (0 + 1) v s b (A ++ Z) = rnF 0 (0 + 1) v s b A ++ runsAt ((A.length + 1 : Nat) : Int) Z
    rw [rnF_parts Z A _ _ _ _ _ h1 h2, show (0 : Int) + 1 + (A.length : Int) = ((A.length + 1 : Nat) : Int) by omega]
def Tiles (Z : List Zc) : Nat → Option (Int × Int × Bool) → List Rn → Prop
  | a, _, [] => a = Z.length
  | a, p, r :: R => r.1 = (a : Int) ∧ ∃ t : Nat, r.2.1 = (t : Int) ∧ a < t ∧ t ≤ Z.length ∧ (∀ k, a ≤ k → k < t → ∃ b, Z[k]? = some (r.2.2.1, r.2.2.2, b) ∧ (b = true → k + 1 = t)) ∧
      (∀ v s b, p = some (v, s, b) → v = r.2.2.1 → s = r.2.2.2 → b = true) ∧ (∃ b, Z[t - 1]? = some (r.2.2.1, r.2.2.2, b) ∧ Tiles Z t (some (r.2.2.1, r.2.2.2, b)) R)
theorem rnF_tiles (Z : List Zc) : ∀ (T : List Zc) (f i : Nat) (v s : Int) (b : Bool) (p : Option (Int × Int × Bool)), Z.drop i = T → f < i → i ≤ Z.length → (∀ k, f ≤ k → k < i → ∃ b, Z[k]? = some (v, s, b) ∧ (b = true → k + 1 = i)) → Z[i - 1]? = some (v, s, b) →
    (∀ v' s' b', p = some (v', s', b') → v' = v → s' = s → b' = true) → Tiles Z f p (rnF f i v s b T)
  | [], f, i, v, s, b, p, hd, hf, hi, hk, hb, hp => by
    have hlen : Z.length ≤ i := List.drop_eq_nil_iff.1 hd
    refine ⟨rfl, i, rfl, hf, hi, hk, hp, b, hb, ?_⟩
    show i = Z.length
    omega
  | (v', s', b') :: T, f, i, v, s, b, p, hd, hf, hi, hk, hb, hp => by
    have hz : Z[i]? = some (v', s', b') := by rw [← List.head?_drop, hd]; rfl
    have hT : Z.drop (i + 1) = T := by rw [← List.tail_drop, hd]; rfl
    have hi' : i < Z.length := (List.getElem?_eq_some_iff.1 hz).1
    unfold rnF
    split
    · rename_i h
      simp only [Bool.and_eq_true, beq_iff_eq, Bool.not_eq_true'] at h
      obtain ⟨⟨rfl, rfl⟩, rfl⟩ := h
      have := rnF_tiles Z T f (i + 1) v s b' p hT (by omega) hi' (fun k h1 h2 => by
        by_cases e : k = i
        · subst e; exact ⟨b', hz, fun _ => rfl⟩
        · obtain ⟨c, hc, hc2⟩ := hk k h1 (by omega)
          refine ⟨c, hc, fun h => ?_⟩
          have := hc2 h
          have hki : k = i - 1 := by omega
          rw [hki, hb] at hc
          simp only [Option.some.injEq, Prod.mk.injEq] at hc
          rw [← hc.2.2] at h
          cases h) (by rw [Nat.add_sub_cancel]; exact hz) hp
      exact this
    · rename_i h
      refine ⟨rfl, i, rfl, hf, hi, hk, hp, b, hb, ?_⟩
      have := rnF_tiles Z T i (i + 1) v' s' b' (some (v, s, b)) hT (by omega) hi' (fun k h1 h2 => by
        obtain rfl : k = i := by omega
        exact ⟨b', hz, fun _ => rfl⟩) (by rw [Nat.add_sub_cancel]; exact hz) (fun v1 s1 b1 e e1 e2 => by
        simp only [Option.some.injEq, Prod.mk.injEq] at e
        obtain ⟨rfl, rfl, rfl⟩ := e
        subst e1; subst e2
        cases b with
        | true => rfl
        | false => simp at h)
      exact this
theorem runs_tiles (Z : List Zc) : Tiles Z 0 none (runsAt 0 Z) := by
  cases Z with
  | nil => rfl
  | cons z T =>
    obtain ⟨v, s, b⟩ := z
    have := rnF_tiles ((v, s, b) :: T) T 0 1 v s b none rfl (by omega) (by simp) (fun k h1 h2 => by
      obtain rfl : k = 0 := by omega
      exact ⟨b, rfl, fun _ => rfl⟩) rfl (fun v' s' b' h => by cases h)
    exact this
end It

set_option linter.unusedVariables false
namespace It
variable (D : Dat)
def rdS (p : Int × List (Int × Int)) (x : Int) : Int × List (Int × Int) :=
  match D.brk x with
  | none => (now D p.1 x, p.2)
  | some (c, true) => (now D p.1 x, if p.2.length < 64 then (c, now D p.1 x) :: p.2 else p.2)
  | some (c, false) => match pop c p.2 with
    | none => (now D p.1 x, p.2)
    | some (s, st') => (s, st')
def prF : Int × List (Int × Int) → List Int → List Int
  | _, [] => []
  | p, x :: t => (rdS D p x).1 :: prF (rdS D p x) t
def partB : List Int → Prop
  | [] => True
  | [_] => True
  | x :: y :: t => D.sep x = false ∧ partB (y :: t)
def fo : List Int → Int
  | [] => 0
  | x :: t => if own D x then D.scr x else fo t
theorem fo_beh : ∀ u : List Int, partB D u → fo D u = beh D u
  | [], _ => rfl
  | [x], _ => by simp [fo, beh]
  | x :: y :: t, h => by
    obtain ⟨h1, h2⟩ := h
    have := fo_beh (y :: t) h2
    rw [fo, beh, h1, this]
    simp
theorem now_at {last p : Int} {x : Int} {t : List Int} (hp : p = if last = 0 then beh D (x :: t) else last) : now D p x = at_ D last x t := by
  unfold at_ now
  cases ho : own D x with
  | true =>
    have : D.scr x ≠ 0 := by simp only [own, decide_eq_true_eq] at ho; omega
    simp [this]
  | false => simpa using hp
theorem rdS_step {last p : Int} {st : List (Int × Int)} {x : Int} {t : List Int} (hp : p = if last = 0 then beh D (x :: t) else last) : rdS D (p, st) x = ((step D last st x t).1, (step D last st x t).2.2) := by
  unfold rdS step
  simp only [now_at D hp]
  rcases hb : D.brk x with _ | ⟨c, _ | _⟩
  · rfl
  · simp only []
    rcases hp : pop c st with _ | ⟨s, st'⟩ <;> simp only []
  · rfl
theorem prF_scF : ∀ (u : List Int) (last p : Int) (st : List (Int × Int)), partB D u → OkSt D st u → (p = if last = 0 then beh D u else last) → prF D (p, st) u = scF D last st u
  | [], _, _, _, _, _, _ => rfl
  | [x], last, p, st, _, _, hp => by
    rw [prF, scF, rdS_step D hp]
    simp only [prF]
    split <;> rfl
  | x :: y :: t, last, p, st, h, ho, hp => by
    obtain ⟨h1, h2⟩ := h
    obtain ⟨k1, k2, k3⟩ := step_ok D (last := last) h1 ho
    rw [prF, scF, rdS_step D hp, h1]
    simp only [Bool.false_eq_true, if_false]
    congr 1
    refine prF_scF (y :: t) _ _ _ h2 k3 ?_
    split
    · rename_i h0; exact k2 h0
    · rename_i h0; exact (k1 h0).symm
theorem prF_scripts {u : List Int} (h : partB D u) : prF D (fo D u, []) u = scripts D u := by
  rw [fo_beh D u h]
  exact prF_scF D u 0 _ [] h (fun d s hm => by cases hm) (by simp)
theorem partB_snoc {x : Int} : ∀ {u : List Int}, (∀ y ∈ u, D.sep y = false) → partB D (u ++ [x])
  | [], _ => trivial
  | [y], h => ⟨h y (by simp), trivial⟩
  | y :: z :: t, h => ⟨h y (by simp), partB_snoc (u := z :: t) (fun w hw => h w (by simp [hw]))⟩
end It
