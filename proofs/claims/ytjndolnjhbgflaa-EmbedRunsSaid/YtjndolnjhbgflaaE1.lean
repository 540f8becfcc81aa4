/-
  Levels, by a stack: lists alone.
-/
import Derived.Test.YtjndolnjhbgflaaGp
namespace Go.Proofs.Ytjndolnjhbgflaa
set_option linter.unusedVariables false

/-- what holds: a level, an override (0: none), of an isolate? -/
structure En where
  lev : Int
  ovr : Int
  iso : Bool
deriving DecidableEq

structure Ms where
  stk : List En
  oi : Nat
  oe : Nat
  vi : Nat
deriving DecidableEq

def ms0 (base : Int) : Ms := ⟨[⟨base, 0, false⟩], 0, 0, 0⟩

def isInit (c : Int) : Bool := decide (c = 20 ∨ c = 21 ∨ c = 22)
def isRem (c : Int) : Bool := decide (c = 15 ∨ c = 16 ∨ c = 17 ∨ c = 18 ∨ c = 19 ∨ c = 10)
def isEmb (c : Int) : Bool := decide (c = 15 ∨ c = 16 ∨ c = 17 ∨ c = 18)

/-- the next level above -/
def nextL (lev : Int) (right : Bool) : Int := if decide ((lev + 1) % 2 = 1) = right then lev + 1 else lev + 2

def ovrOf (c : Int) : Int := if c = 17 then 1 else if c = 18 then 2 else 0

/-- the first strong class: is it R or AL? -/
def rightw (iso : Bool) : Nat → List Int → Bool
  | _, [] => false
  | d, c :: r =>
    if c = 11 then false
    else if isInit c then rightw iso (d + 1) r
    else if c = 23 then (match d with | 0 => if iso then false else rightw iso 0 r | d + 1 => rightw iso d r)
    else if d = 0 ∧ c = 1 then false
    else if d = 0 ∧ (c = 2 ∨ c = 3) then true
    else rightw iso d r

/-- the entries under the last isolate -/
def popIso : List En → List En
  | [] => []
  | e :: r => if e.iso then r else popIso r

def topL (s : List En) (base : Int) : Int := (s.head?.map En.lev).getD base
def topO (s : List En) : Int := (s.head?.map En.ovr).getD 0
def clsO (s : List En) (c : Int) : Int := if topO s = 0 then c else topO s

/-- one class -/
def stepM (base : Int) (s : Ms) (c : Int) (fsi : Bool) : Ms × Option (Int × Int) :=
  if c = 11 then (ms0 base, some (base, 11))
  else if c = 23 then
    let t := if 0 < s.oi then { s with oi := s.oi - 1 } else if 0 < s.vi then ⟨popIso s.stk, 0, 0, s.vi - 1⟩ else s
    (t, some (topL t.stk base, clsO t.stk c))
  else if c = 19 then
    (if 0 < s.oi then s else if 0 < s.oe then { s with oe := s.oe - 1 } else match s.stk with
      | e :: f :: r => if e.iso then s else { s with stk := f :: r }
      | _ => s, none)
  else if isInit c then
    (if s.oi = 0 ∧ s.oe = 0 ∧ nextL (topL s.stk base) (c == 21 || (c == 22 && fsi)) ≤ 125 then { s with stk := ⟨nextL (topL s.stk base) (c == 21 || (c == 22 && fsi)), 0, true⟩ :: s.stk, vi := s.vi + 1 } else { s with oi := s.oi + 1 },
      some (topL s.stk base, clsO s.stk c))
  else if isEmb c then
    (if s.oi = 0 ∧ s.oe = 0 ∧ nextL (topL s.stk base) (c == 16 || c == 18) ≤ 125 then { s with stk := ⟨nextL (topL s.stk base) (c == 16 || c == 18), ovrOf c, false⟩ :: s.stk } else if s.oi = 0 then { s with oe := s.oe + 1 } else s, none)
  else if c = 10 then (s, none)
  else (s, some (topL s.stk base, clsO s.stk c))

/-- levels and classes, from a state on; p: the level of what stands ahead -/
def runM (base : Int) : Ms → Int → List Int → List (Int × Int)
  | _, _, [] => []
  | s, p, c :: r =>
    match (stepM base s c (rightw true 0 r)).2 with
    | some (v, k) => (v, k) :: runM base (stepM base s c (rightw true 0 r)).1 v r
    | none => (p, 10) :: runM base (stepM base s c (rightw true 0 r)).1 p r

theorem runM_cons (base : Int) (s : Ms) (p c : Int) (r : List Int) : runM base s p (c :: r) = match (stepM base s c (rightw true 0 r)).2 with
    | some (v, k) => (v, k) :: runM base (stepM base s c (rightw true 0 r)).1 v r
    | none => (p, 10) :: runM base (stepM base s c (rightw true 0 r)).1 p r := rfl

theorem runM_len (base : Int) : ∀ (l : List Int) (s : Ms) (p : Int), (runM base s p l).length = l.length
  | [], _, _ => rfl
  | c :: r, s, p => by
    unfold runM
    split <;> simp [runM_len base r]

/-! ### bounds -/

structure GoodM (base : Int) (s : Ms) : Prop where
  lev : ∀ e ∈ s.stk, base ≤ e.lev ∧ e.lev ≤ 125
  ovr : ∀ e ∈ s.stk, e.ovr = 0 ∨ e.ovr = 1 ∨ e.ovr = 2

theorem good0 {base : Int} (h : 0 ≤ base ∧ base ≤ 1) : GoodM base (ms0 base) :=
  ⟨fun e he => by simp [ms0] at he; subst he; simp; omega, fun e he => by simp [ms0] at he; subst he; simp⟩

theorem popIso_sub : ∀ (l : List En), ∀ e ∈ popIso l, e ∈ l
  | [], e, h => h
  | x :: r, e, h => by
    unfold popIso at h
    split at h
    · exact List.mem_cons_of_mem _ h
    · exact List.mem_cons_of_mem _ (popIso_sub r e h)

theorem topL_in {base : Int} {s : List En} (h : ∀ e ∈ s, base ≤ e.lev ∧ e.lev ≤ 125) (hb : base ≤ 125) : base ≤ topL s base ∧ topL s base ≤ 125 := by
  cases s with
  | nil => simp [topL]; omega
  | cons e r => have := h e (by simp); simpa [topL] using this

theorem topO_in {s : List En} (h : ∀ e ∈ s, e.ovr = 0 ∨ e.ovr = 1 ∨ e.ovr = 2) : topO s = 0 ∨ topO s = 1 ∨ topO s = 2 := by
  cases s with
  | nil => simp [topO]
  | cons e r => have := h e (by simp); simpa [topO] using this

theorem nextL_gt (lev : Int) (r : Bool) : lev < nextL lev r := by unfold nextL; split <;> omega

theorem ovrOf_in (c : Int) : ovrOf c = 0 ∨ ovrOf c = 1 ∨ ovrOf c = 2 := by unfold ovrOf; split; simp; split <;> simp

theorem good_sub {base : Int} {s : Ms} (h : GoodM base s) {t : Ms} (hs : ∀ e ∈ t.stk, e ∈ s.stk) : GoodM base t := ⟨fun e he => h.lev e (hs e he), fun e he => h.ovr e (hs e he)⟩

theorem step_good {base : Int} (hb : 0 ≤ base ∧ base ≤ 1) {s : Ms} (h : GoodM base s) (c : Int) (f : Bool) : GoodM base (stepM base s c f).1 := by
  unfold stepM
  split
  · exact good0 hb
  split
  · simp only
    split
    · exact good_sub h fun e he => he
    split
    · exact good_sub h (popIso_sub _)
    · exact h
  split
  · simp only
    split
    · exact h
    split
    · exact good_sub h fun e he => he
    split
    · rename_i e g r hs
      split
      · exact h
      · exact good_sub h fun x hx => by rw [hs]; exact List.mem_cons_of_mem _ hx
    · exact h
  have ht := topL_in h.lev (by omega)
  split
  · simp only
    split
    · rename_i hc
      have hn := nextL_gt (topL s.stk base) (c == 21 || (c == 22 && f))
      refine ⟨fun e he => ?_, fun e he => ?_⟩
      · rcases List.mem_cons.1 he with rfl | he
        · exact ⟨by show base ≤ nextL _ _; omega, hc.2.2⟩
        · exact h.lev e he
      · rcases List.mem_cons.1 he with rfl | he
        · exact .inl rfl
        · exact h.ovr e he
    · exact good_sub h fun e he => he
  split
  · simp only
    split
    · rename_i hc
      have hn := nextL_gt (topL s.stk base) (c == 16 || c == 18)
      refine ⟨fun e he => ?_, fun e he => ?_⟩
      · rcases List.mem_cons.1 he with rfl | he
        · exact ⟨by show base ≤ nextL _ _; omega, hc.2.2⟩
        · exact h.lev e he
      · rcases List.mem_cons.1 he with rfl | he
        · exact ovrOf_in c
        · exact h.ovr e he
    split
    · exact good_sub h fun e he => he
    · exact h
  split
  · exact h
  · exact h

theorem cls_in {s : List En} (h : ∀ e ∈ s, e.ovr = 0 ∨ e.ovr = 1 ∨ e.ovr = 2) (c : Int) : clsO s c = c ∨ clsO s c = 1 ∨ clsO s c = 2 := by
  unfold clsO
  have := topO_in h
  split
  · exact .inl rfl
  · rcases this with h | h | h
    · contradiction
    · exact .inr (.inl h)
    · exact .inr (.inr h)

theorem isRem_iff (c : Int) : isRem c = true ↔ c = 15 ∨ c = 16 ∨ c = 17 ∨ c = 18 ∨ c = 19 ∨ c = 10 := by simp [isRem]
theorem isInit_iff (c : Int) : isInit c = true ↔ c = 20 ∨ c = 21 ∨ c = 22 := by simp [isInit]
theorem isEmb_iff (c : Int) : isEmb c = true ↔ c = 15 ∨ c = 16 ∨ c = 17 ∨ c = 18 := by simp [isEmb]

/-- what a class tells -/
theorem step_out {base : Int} (hb : 0 ≤ base ∧ base ≤ 1) {s : Ms} (h : GoodM base s) (c : Int) (f : Bool) :
    (isRem c = true → (stepM base s c f).2 = none) ∧ (isRem c = false → ∃ v k, (stepM base s c f).2 = some (v, k) ∧ base ≤ v ∧ v ≤ 125 ∧ (k = c ∨ k = 1 ∨ k = 2) ∧ (c = 11 → v = base)) := by
  have hg := step_good hb h c f
  have ht := topL_in h.lev (by omega)
  constructor
  · intro hr
    rw [isRem_iff] at hr
    unfold stepM
    rw [if_neg (by omega), if_neg (by omega)]
    split
    · rfl
    rw [if_neg (by rw [isInit_iff]; omega)]
    split
    · rfl
    · rename_i h1 h2
      rw [isEmb_iff] at h2
      rw [if_pos (by omega)]
  · intro hr
    have hr' : ¬ (c = 15 ∨ c = 16 ∨ c = 17 ∨ c = 18 ∨ c = 19 ∨ c = 10) := fun e => by rw [(isRem_iff c).2 e] at hr; cases hr
    unfold stepM at hg ⊢
    split
    · rename_i e; exact ⟨base, 11, rfl, by omega, by omega, .inl e.symm, fun _ => rfl⟩
    rename_i h11
    rw [if_neg h11] at hg
    split
    · rename_i h23
      rw [if_pos h23] at hg
      simp only at hg ⊢
      have h1 := topL_in hg.lev (by omega)
      exact ⟨_, _, rfl, h1.1, h1.2, cls_in hg.ovr c, fun e => absurd e h11⟩
    rename_i h23
    rw [if_neg (by omega)]
    split
    · exact ⟨_, _, rfl, ht.1, ht.2, cls_in h.ovr c, fun e => absurd e h11⟩
    rw [if_neg (by rw [isEmb_iff]; omega), if_neg (by omega)]
    exact ⟨_, _, rfl, ht.1, ht.2, cls_in h.ovr c, fun e => absurd e h11⟩

/-- EmbedBounds, of lists -/
def okRow (base : Int) : Int → List Int → List (Int × Int) → Prop
  | _, [], [] => True
  | p, c :: r, (v, k) :: o => base ≤ v ∧ v ≤ 125 ∧ (c = 11 → v = base) ∧ (isRem c = true → v = p ∧ k = 10) ∧ (isRem c = false → k = c ∨ k = 1 ∨ k = 2) ∧ okRow base v r o
  | _, _, _ => False

theorem run_ok {base : Int} (hb : 0 ≤ base ∧ base ≤ 1) : ∀ (l : List Int) (s : Ms) (p : Int), GoodM base s → base ≤ p → p ≤ 125 → okRow base p l (runM base s p l)
  | [], _, _, _, _, _ => trivial
  | c :: r, s, p, h, hp, hp2 => by
    have ho := step_out hb h c (rightw true 0 r)
    have hg := step_good hb h c (rightw true 0 r)
    unfold runM
    cases hc : isRem c with
    | true =>
      rw [ho.1 hc]
      simp only [okRow]
      exact ⟨hp, hp2, fun e => (by subst e; simp [isRem] at hc), fun _ => ⟨trivial, trivial⟩, fun e => (by rw [hc] at e; cases e), run_ok hb r _ p hg hp hp2⟩
    | false =>
      obtain ⟨v, k, e, h1, h2, h3, h4⟩ := ho.2 hc
      rw [e]
      simp only [okRow]
      exact ⟨h1, h2, h4, fun e => (by rw [hc] at e; cases e), fun _ => h3, run_ok hb r _ v hg h1 h2⟩

/-! ### no controls -/

theorem plain_run {base : Int} : ∀ (l : List Int), (∀ c ∈ l, (1 ≤ c ∧ c ≤ 14) ∨ c = 23 ∨ c = 19) → runM base (ms0 base) base l = l.map fun c => (base, if c = 19 then 10 else c)
  | [], _ => rfl
  | c :: r, h => by
    have hc := h c (by simp)
    have ih := plain_run (base := base) r fun x hx => h x (by simp [hx])
    have hs : stepM base (ms0 base) c (rightw true 0 r) = (ms0 base, if isRem c = true then none else some (base, c)) := by
      unfold stepM
      by_cases h11 : c = 11
      · subst h11; rfl
      rw [if_neg h11]
      by_cases h23 : c = 23
      · subst h23; rfl
      rw [if_neg h23]
      by_cases h19 : c = 19
      · subst h19; rfl
      rw [if_neg h19, if_neg (by rw [isInit_iff]; omega), if_neg (by rw [isEmb_iff]; omega)]
      by_cases h10 : c = 10
      · subst h10; rfl
      rw [if_neg h10, if_neg (by rw [isRem_iff]; omega)]
      rfl
    unfold runM
    rw [hs]
    simp only [List.map_cons]
    by_cases hr : isRem c = true
    · rw [if_pos hr]
      simp only [ih]
      rw [isRem_iff] at hr
      congr 2
      split
      · rfl
      · omega
    · rw [if_neg hr]
      simp only [ih]
      rw [isRem_iff] at hr
      rw [if_neg (by omega)]

/-! ### what a B parts -/

theorem right_b (iso : Bool) (b : List Int) : ∀ (a : List Int) (d : Nat), rightw iso d (a ++ 11 :: b) = rightw iso d a
  | [], d => by simp [rightw]
  | c :: a, d => by
    rw [List.cons_append]
    unfold rightw
    simp only [right_b iso b a]

theorem run_b {base : Int} (b : List Int) : ∀ (a : List Int) (s : Ms) (p : Int), runM base s p (a ++ 11 :: b) = runM base s p a ++ (base, 11) :: runM base (ms0 base) base b
  | [], s, p => by
    rw [List.nil_append]
    conv => lhs; unfold runM
    rfl
  | c :: a, s, p => by
    rw [List.cons_append, runM_cons, runM_cons, right_b]
    simp only [run_b b a]
    split <;> rfl

/-! ### isolates -/

/-- the initiators and PDIs of what stands there are each other's; d of them are open; no B -/
def balIn : Nat → List Int → Prop
  | d, [] => d = 0
  | d, c :: r => c ≠ 11 ∧ (if isInit c = true then balIn (d + 1) r else if c = 23 then (match d with | 0 => False | d + 1 => balIn d r) else balIn d r)

theorem balIn_cons (d : Nat) (c : Int) (r : List Int) : balIn d (c :: r) = (c ≠ 11 ∧ (if isInit c = true then balIn (d + 1) r else if c = 23 then (match d with | 0 => False | d + 1 => balIn d r) else balIn d r)) := rfl
theorem rightw_cons (iso : Bool) (d : Nat) (c : Int) (r : List Int) : rightw iso d (c :: r) = (if c = 11 then false
    else if isInit c then rightw iso (d + 1) r
    else if c = 23 then (match d with | 0 => if iso then false else rightw iso 0 r | d + 1 => rightw iso d r)
    else if d = 0 ∧ c = 1 then false
    else if d = 0 ∧ (c = 2 ∨ c = 3) then true
    else rightw iso d r) := by cases d <;> rfl

theorem right_bal (iso : Bool) (x : List Int) : ∀ (m : List Int) (d e : Nat), balIn d m → rightw iso (e + d + 1) (m ++ 23 :: x) = rightw iso e x
  | [], d, e, h => by
    obtain rfl : d = 0 := h
    rw [List.nil_append, rightw_cons, if_neg (by decide), if_neg (by decide), if_pos rfl]
  | c :: m, d, e, h => by
    rw [balIn_cons] at h
    rw [List.cons_append, rightw_cons, if_neg h.1]
    by_cases hi : isInit c = true
    · rw [if_pos hi] at h ⊢
      exact right_bal iso x m (d + 1) e h.2
    · rw [if_neg hi] at h ⊢
      by_cases h23 : c = 23
      · rw [if_pos h23] at h ⊢
        match d, h.2 with
        | d + 1, h2 => exact right_bal iso x m d e h2
      · rw [if_neg h23] at h ⊢
        rw [if_neg (by omega), if_neg (by omega)]
        exact right_bal iso x m d e h.2

/-- an isolate's content is passed over -/
theorem right_iso (iso : Bool) (c : Int) (hc : isInit c = true) (m x : List Int) (hm : balIn 0 m) : ∀ (a : List Int) (d : Nat), rightw iso d (a ++ c :: (m ++ 23 :: x)) = rightw iso d (a ++ c :: 23 :: x)
  | [], d => by
    have h11 : c ≠ 11 := by rw [isInit_iff] at hc; omega
    have h1 := right_bal iso x m 0 d hm
    have h2 := right_bal iso x [] 0 d rfl
    rw [List.nil_append, List.nil_append, rightw_cons, if_neg h11, if_pos hc, rightw_cons iso d c, if_neg h11, if_pos hc]
    exact h1.trans h2.symm
  | y :: a, d => by
    rw [List.cons_append, List.cons_append, rightw_cons, rightw_cons]
    simp only [right_iso iso c hc m x hm a]

/-- the state behind so many classes -/
def endM (base : Int) : Ms → List Int → List Int → Ms
  | s, [], _ => s
  | s, c :: r, x => endM base (stepM base s c (rightw true 0 (r ++ x))).1 r x

theorem endM_cons (base : Int) (s : Ms) (c : Int) (r x : List Int) : endM base s (c :: r) x = endM base (stepM base s c (rightw true 0 (r ++ x))).1 r x := rfl

theorem endM_app (base : Int) (x : List Int) : ∀ (a b : List Int) (s : Ms), endM base s (a ++ b) x = endM base (endM base s a (b ++ x)) b x
  | [], b, s => rfl
  | c :: a, b, s => by rw [List.cons_append, endM_cons, endM_cons, List.append_assoc]; exact endM_app base x a b _

/-- the level behind so many classes -/
def endP (base : Int) : Ms → Int → List Int → List Int → Int
  | _, p, [], _ => p
  | s, p, c :: r, x => endP base (stepM base s c (rightw true 0 (r ++ x))).1 (match (stepM base s c (rightw true 0 (r ++ x))).2 with | some (v, _) => v | none => p) r x

/-- levels and classes of the first ones, x behind them -/
def outM (base : Int) : Ms → Int → List Int → List Int → List (Int × Int)
  | _, _, [], _ => []
  | s, p, c :: r, x =>
    match (stepM base s c (rightw true 0 (r ++ x))).2 with
    | some (v, k) => (v, k) :: outM base (stepM base s c (rightw true 0 (r ++ x))).1 v r x
    | none => (p, 10) :: outM base (stepM base s c (rightw true 0 (r ++ x))).1 p r x

theorem run_app (base : Int) (x : List Int) : ∀ (a : List Int) (s : Ms) (p : Int), runM base s p (a ++ x) = outM base s p a x ++ runM base (endM base s a x) (endP base s p a x) x
  | [], s, p => rfl
  | c :: a, s, p => by
    rw [List.cons_append]
    conv => lhs; unfold runM
    unfold outM endM endP
    cases h : (stepM base s c (rightw true 0 (a ++ x))).2 with
    | none => simp only [run_app base x a, List.cons_append]
    | some q => obtain ⟨v, k⟩ := q; simp only [run_app base x a, List.cons_append]

theorem outM_len (base : Int) (x : List Int) : ∀ (a : List Int) (s : Ms) (p : Int), (outM base s p a x).length = a.length
  | [], _, _ => rfl
  | c :: a, s, p => by unfold outM; split <;> simp [outM_len base x a]

/-- in an overflown isolate nothing turns but how many are overflown -/
theorem over_run (base : Int) (x : List Int) : ∀ (m : List Int) (d : Nat) (s : Ms) (o : Nat), balIn d m → s.oi = o + d + 1 → endM base s m x = { s with oi := o + 1 }
  | [], d, s, o, h, hs => by obtain rfl : d = 0 := h; unfold endM; obtain ⟨a, b, c, d⟩ := s; simp at hs; subst hs; rfl
  | c :: m, d, s, o, h, hs => by
    rw [balIn_cons] at h
    rw [endM_cons]
    have hpos : 0 < s.oi := by omega
    by_cases hi : isInit c = true
    · rw [if_pos hi] at h
      have hst : (stepM base s c (rightw true 0 (m ++ x))).1 = { s with oi := s.oi + 1 } := by
        unfold stepM
        have hi' := hi
        rw [isInit_iff] at hi'
        rw [if_neg h.1, if_neg (by omega), if_neg (by omega), if_pos hi, if_neg (by omega)]
      rw [hst, over_run base x m (d + 1) _ o h.2 (by show s.oi + 1 = _; omega)]
    · rw [if_neg hi] at h
      by_cases h23 : c = 23
      · rw [if_pos h23] at h
        match d, h.2, hs with
        | d + 1, h2, hs =>
          have hst : (stepM base s c (rightw true 0 (m ++ x))).1 = { s with oi := s.oi - 1 } := by
            unfold stepM
            rw [if_neg h.1, if_pos h23]
            simp only
            rw [if_pos hpos]
          rw [hst, over_run base x m d _ o h2 (by show s.oi - 1 = _; omega)]
      · rw [if_neg h23] at h
        have hst : (stepM base s c (rightw true 0 (m ++ x))).1 = s := by
          unfold stepM
          rw [if_neg h.1, if_neg h23]
          by_cases h19 : c = 19
          · rw [if_pos h19]; simp only; rw [if_pos hpos]
          rw [if_neg h19, if_neg hi]
          by_cases he : isEmb c = true
          · rw [if_pos he]; simp only; rw [if_neg (by omega), if_neg (by omega)]
          rw [if_neg he]
          split <;> rfl
        rw [hst, over_run base x m d s o h.2 hs]

/-- so many isolates among these entries -/
def isoN : List En → Nat
  | [] => 0
  | e :: r => isoN r + (if e.iso = true then 1 else 0)

theorem isoN_cons (e : En) (r : List En) : isoN (e :: r) = isoN r + (if e.iso = true then 1 else 0) := rfl
theorem popIso_cons (e : En) (r : List En) : popIso (e :: r) = if e.iso then r else popIso r := rfl

theorem pop_in (e0 : En) (rest : List En) : ∀ (T : List En), 0 < isoN T → ∃ T', popIso (T ++ e0 :: rest) = T' ++ e0 :: rest ∧ isoN T' + 1 = isoN T
  | [], h => by simp [isoN] at h
  | e :: T, h => by
    rw [isoN_cons] at h ⊢
    rw [List.cons_append, popIso_cons]
    by_cases he : e.iso = true
    · rw [if_pos he, if_pos he]
      exact ⟨T, rfl, rfl⟩
    · rw [if_neg he] at h
      rw [if_neg he, if_neg he]
      obtain ⟨T', h1, h2⟩ := pop_in e0 rest T (by omega)
      exact ⟨T', h1, by omega⟩

theorem pop_out (e0 : En) (he0 : e0.iso = true) (rest : List En) : ∀ (T : List En), isoN T = 0 → popIso (T ++ e0 :: rest) = rest
  | [], h => by rw [List.nil_append, popIso_cons, if_pos he0]
  | e :: T, h => by
    rw [isoN_cons] at h
    rw [List.cons_append, popIso_cons]
    by_cases he : e.iso = true
    · rw [if_pos he] at h; omega
    · rw [if_neg he] at h
      rw [if_neg he]
      exact pop_out e0 he0 rest T (by omega)

/-- in an isolate what stands under it stays -/
theorem in_run (base : Int) (x : List Int) (e0 : En) (he0 : e0.iso = true) (rest : List En) (v : Nat) : ∀ (m : List Int) (d : Nat) (s : Ms) (T : List En), balIn d m → s.stk = T ++ e0 :: rest → isoN T + s.oi = d → s.vi = v + 1 + isoN T →
    ∃ T', (endM base s m x).stk = T' ++ e0 :: rest ∧ isoN T' = 0 ∧ (endM base s m x).oi = 0 ∧ (endM base s m x).vi = v + 1
  | [], d, s, T, h, h1, h2, h3 => by obtain rfl : d = 0 := h; exact ⟨T, h1, by omega, by show s.oi = 0; omega, by show s.vi = _; omega⟩
  | c :: m, d, s, T, h, h1, h2, h3 => by
    rw [balIn_cons] at h
    rw [endM_cons]
    by_cases hi : isInit c = true
    · rw [if_pos hi] at h
      have hi' := hi
      rw [isInit_iff] at hi'
      unfold stepM
      rw [if_neg h.1, if_neg (by omega), if_neg (by omega), if_pos hi]
      simp only
      split
      · rename_i hc
        refine in_run base x e0 he0 rest v m (d + 1) _ (_ :: T) h.2 (by show _ :: s.stk = _; rw [h1]; rfl) ?_ ?_
        · show isoN T + (if true = true then 1 else 0) + s.oi = d + 1; simp; omega
        · show s.vi + 1 = v + 1 + (isoN T + (if true = true then 1 else 0)); simp; omega
      · exact in_run base x e0 he0 rest v m (d + 1) _ T h.2 h1 (by show isoN T + (s.oi + 1) = _; omega) h3
    · rw [if_neg hi] at h
      by_cases h23 : c = 23
      · rw [if_pos h23] at h
        match d, h.2, h2 with
        | d + 1, hd, h2 =>
          unfold stepM
          rw [if_neg h.1, if_pos h23]
          simp only
          by_cases ho : 0 < s.oi
          · rw [if_pos ho]
            exact in_run base x e0 he0 rest v m d _ T hd h1 (by show isoN T + (s.oi - 1) = d; omega) h3
          · rw [if_neg ho, if_pos (by omega)]
            obtain ⟨T', hp, hn⟩ := pop_in e0 rest T (by omega)
            exact in_run base x e0 he0 rest v m d _ T' hd (by show popIso s.stk = _; rw [h1]; exact hp) (by show isoN T' + 0 = d; omega) (by show s.vi - 1 = _; omega)
      · rw [if_neg h23] at h
        have hst : ∃ T', (stepM base s c (rightw true 0 (m ++ x))).1.stk = T' ++ e0 :: rest ∧ isoN T' = isoN T ∧ (stepM base s c (rightw true 0 (m ++ x))).1.oi = s.oi ∧ (stepM base s c (rightw true 0 (m ++ x))).1.vi = s.vi := by
          unfold stepM
          rw [if_neg h.1, if_neg h23]
          by_cases h19 : c = 19
          · rw [if_pos h19]
            simp only
            split
            · exact ⟨T, h1, rfl, rfl, rfl⟩
            split
            · exact ⟨T, h1, rfl, rfl, rfl⟩
            split
            · rename_i e f r hs
              split
              · exact ⟨T, h1, rfl, rfl, rfl⟩
              · rename_i he
                cases T with
                | nil =>
                  rw [List.nil_append, hs] at h1
                  injection h1 with h1 _
                  rw [h1] at he
                  exact absurd he0 he
                | cons t T =>
                  rw [hs, List.cons_append] at h1
                  injection h1 with h4 h5
                  refine ⟨T, h5, ?_, rfl, rfl⟩
                  rw [isoN_cons, ← h4, if_neg he, Nat.add_zero]
            · exact ⟨T, h1, rfl, rfl, rfl⟩
          rw [if_neg h19, if_neg hi]
          by_cases hemb : isEmb c = true
          · rw [if_pos hemb]
            simp only
            split
            · exact ⟨_ :: T, by show _ :: s.stk = _; rw [h1]; rfl, by show isoN T + (if false = true then 1 else 0) = _; simp, rfl, rfl⟩
            split <;> exact ⟨T, h1, rfl, rfl, rfl⟩
          rw [if_neg hemb]
          split <;> exact ⟨T, h1, rfl, rfl, rfl⟩
        obtain ⟨T', q1, q2, q3, q4⟩ := hst
        exact in_run base x e0 he0 rest v m d _ T' h.2 q1 (by omega) (by omega)

/-- an isolate, gone through: all is as ahead of it -/
theorem iso_run (base : Int) (x : List Int) (c : Int) (hc : c = 20 ∨ c = 21) (m : List Int) (hm : balIn 0 m) (s : Ms) :
    endM base s (c :: (m ++ [23])) x = s := by
  have hi : isInit c = true := by rw [isInit_iff]; omega
  rw [endM_cons, endM_app]
  have hst : (stepM base s c (rightw true 0 (m ++ [23] ++ x))).1 = if s.oi = 0 ∧ s.oe = 0 ∧ nextL (topL s.stk base) (c == 21) ≤ 125 then { s with stk := ⟨nextL (topL s.stk base) (c == 21), 0, true⟩ :: s.stk, vi := s.vi + 1 } else { s with oi := s.oi + 1 } := by
    unfold stepM
    rw [if_neg (by omega), if_neg (by omega), if_neg (by omega), if_pos hi]
    have h22 : (c == 22) = false := by rcases hc with rfl | rfl <;> rfl
    rw [h22, Bool.false_and, Bool.or_false]
  rw [hst]
  split
  · rename_i hp
    obtain ⟨T', h1, h2, h3, h4⟩ := in_run base ([23] ++ x) ⟨nextL (topL s.stk base) (c == 21), 0, true⟩ rfl s.stk s.vi m 0 { s with stk := ⟨nextL (topL s.stk base) (c == 21), 0, true⟩ :: s.stk, vi := s.vi + 1 } [] hm rfl (by show 0 + s.oi = 0; omega) rfl
    generalize endM base { s with stk := ⟨nextL (topL s.stk base) (c == 21), 0, true⟩ :: s.stk, vi := s.vi + 1 } m ([23] ++ x) = t at h1 h2 h3 h4
    rw [endM_cons]
    unfold endM stepM
    rw [if_neg (by decide), if_pos rfl]
    simp only
    rw [if_neg (by omega), if_pos (by omega), h1, pop_out _ rfl _ _ h2, h4]
    obtain ⟨a, b, c, d⟩ := s
    simp at hp ⊢
    omega
  · have h1 := over_run base ([23] ++ x) m 0 { s with oi := s.oi + 1 } s.oi hm rfl
    rw [h1]
    rw [endM_cons]
    unfold endM stepM
    rw [if_neg (by decide), if_pos rfl]
    simp only
    rw [if_pos (by omega)]
    obtain ⟨a, b, c, d⟩ := s
    rfl
end Go.Proofs.Ytjndolnjhbgflaa
