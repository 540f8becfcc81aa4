/-
  Lists.
-/
set_option linter.unusedVariables false
namespace Sg
abbrev U := Int × Int × Int × Bool × Bool
def spaced (c : Int) : Bool := c == 1 || c == 2 || c == 3 || c == 4 || c == 5 || c == 6
def mark (c : Int) : Bool := c == 9 || c == 10
def at0 : List U → Int | [] => 99 | u :: _ => u.1
def spk : List U → List U | [] => [] | u :: t => if u.1 == 5 then spk t else u :: t
def num : List U → Bool | [] => false | u :: t => if u.1 == 24 || u.1 == 23 then num t else u.1 == 27
def oddR : List U → Bool | [] => false | u :: t => if u.1 == 32 then !oddR t else false
def narrow : List U → Bool | [] => true | u :: _ => !u.2.2.2.2
def opn (c r : Int) : Bool := c == 22 && (r == 0xAB || r == 0x2018 || r == 0x201B || r == 0x201C || r == 0x201F || r == 0x2039)
def cls0 (c r : Int) : Bool := c == 22 && (r == 0xBB || r == 0x2019 || r == 0x201D || r == 0x203A)
def opnL : List U → Bool | [] => false | u :: _ => opn u.1 u.2.1
def clsL : List U → Bool | [] => false | u :: _ => cls0 u.1 u.2.1
def r0 : List U → Int | [] => 0 | u :: _ => u.2.1
def wd0 : List U → Bool | [] => false | u :: _ => u.2.2.2.2
def zw0 : List U → Bool | [] => false | u :: _ => u.2.2.2.1
def letter (c : Int) : Bool := c == 0 || c == 28
def hangul (c : Int) : Bool := c == 33 || c == 34 || c == 35 || c == 36 || c == 37
def inO (c : Int) : Bool := c == 99 || c == 1 || c == 2 || c == 3 || c == 4 || c == 19 || c == 22 || c == 8 || c == 5 || c == 6
def inC (c : Int) : Bool := c == 99 || c == 5 || c == 8 || c == 7 || c == 21 || c == 22 || c == 20 || c == 16 || c == 23 || c == 24 || c == 1 || c == 2 || c == 3 || c == 4 || c == 6
def inH (c : Int) : Bool := c == 99 || c == 1 || c == 2 || c == 3 || c == 4 || c == 5 || c == 6 || c == 15 || c == 8
def inX (c : Int) : Bool := c == 21 || c == 20 || c == 16 || c == 24
def idm (c : Int) : Bool := c == 29 || c == 30 || c == 31
def lat (p q : Int) (qop num1 num2 odd1 wP wI : Bool) : Int :=
  if letter p && q == 27 || p == 27 && letter q then 0
  else if p == 26 && idm q || idm p && q == 25 then 0
  else if (p == 26 || p == 25) && letter q || letter p && (q == 26 || q == 25) then 0
  else if (q == 25 || q == 26) && ((p == 21 || p == 20) && num2 || num1) then 0
  else if (p == 25 || p == 26) && (q == 27 || qop) then 0
  else if (p == 14 || p == 23) && q == 27 || num1 && q == 27 then 0
  else if p == 33 && (q == 33 || q == 34 || q == 36 || q == 37) || (p == 34 || p == 36) && (q == 34 || q == 35) || (p == 35 || p == 37) && q == 35 then 0
  else if hangul p && q == 25 || p == 26 && hangul q then 0
  else if letter p && letter q || p == 23 && letter q then 0
  else if (letter p || p == 27) && q == 19 && !wI || p == 20 && !wP && (letter q || q == 27) then 0
  else if p == 32 && q == 32 && odd1 || p == 30 && q == 31 then 0
  else 1
def rul (p q : Int) (zp kzw kop kopn kcl kb2 clI nNU opI clP nwP nwN nwI nwO h10 oB oHL wP wI qop num1 num2 odd1 : Bool) : Int :=
  if p == 1 then 2
  else if p == 2 && q == 3 then 0
  else if p == 2 || p == 3 || p == 4 then 2
  else if spaced q then 0
  else if kzw then 1
  else if zp || p == 7 || q == 7 || p == 8 then 0
  else if q == 8 && p != 5 && p != 11 && p != 14 then 0
  else if inX q || kop then 0
  else if kopn then 0
  else if clI then 0
  else if p == 5 && q == 23 && nNU then 1
  else if q == 23 || kcl && q == 18 || kb2 && q == 13 then 0
  else if p == 5 then 1
  else if q == 22 && !opI || p == 22 && !clP then 0
  else if q == 22 && (nwP || nwN) || p == 22 && (nwI || nwO) then 0
  else if p == 15 || q == 15 then 1
  else if (p == 14 || h10) && q == 0 && oB then 0
  else if q == 11 || q == 14 || q == 18 || p == 12 then 0
  else if oHL && (p == 14 || p == 11 && !wP) && q != 28 then 0
  else if p == 24 && q == 28 || q == 17 then 0
  else lat p q qop num1 num2 odd1 wP wI
def betw (L R : List U) : Int :=
  let K := spk L
  rul (at0 L) (at0 R) (zw0 L) (at0 K == 6) (at0 K == 19) (opnL K && inO (at0 (K.drop 1))) (at0 K == 21 || at0 K == 20) (at0 K == 13)
    (clsL R && inC (at0 (R.drop 1))) (at0 (R.drop 1) == 27) (opnL R) (clsL L) (narrow L) (narrow (R.drop 1)) (narrow R) (narrow (L.drop 1))
    (r0 L == 0x2010) (inH (at0 (L.drop 1))) (at0 (L.drop 1) == 28) (wd0 L) (wd0 R)
    (at0 R == 19 && (at0 (R.drop 1) == 27 || at0 (R.drop 1) == 23 && at0 (R.drop 2) == 27)) (num L) (num (L.drop 1)) (oddR L)
def En (e : U) : Prop := (e.1 = 1 ∨ e.1 = 3) ∧ e.2.2.2.2 = false
theorem betw_right {L R B : List U} {e : U} (hR : R ≠ []) (he : En e) : betw L (R ++ e :: B) = betw L R := by
  obtain ⟨h1, h2⟩ := he
  match R, hR with
  | [u], _ => rcases h1 with h | h <;> simp [betw, at0, clsL, opnL, narrow, wd0, inC, h, h2]
  | [u, v], _ => rcases h1 with h | h <;> simp [betw, at0, clsL, opnL, narrow, wd0, inC, h]
  | u :: v :: x :: t, _ => simp [betw, at0, clsL, opnL, narrow, wd0, inC]
theorem spk_app {L A : List U} {e : U} (h : e.1 ≠ 5) : spk (L ++ e :: A) = spk L ++ e :: A := by
  induction L with
  | nil => simp [spk, h]
  | cons u t ih => simp only [List.cons_append, spk]; split <;> simp [ih]
theorem num_app {L A : List U} {e : U} (h : e.1 ≠ 24 ∧ e.1 ≠ 23 ∧ e.1 ≠ 27) : num (L ++ e :: A) = num L := by
  induction L with
  | nil => simp [num, h]
  | cons u t ih => simp only [List.cons_append, num]; split <;> simp [ih]
theorem odd_app {L A : List U} {e : U} (h : e.1 ≠ 32) : oddR (L ++ e :: A) = oddR L := by
  induction L with
  | nil => simp [oddR, h]
  | cons u t ih => simp only [List.cons_append, oddR]; split <;> simp [ih]
theorem betw_left {L A R : List U} {e : U} (hL : L ≠ []) (he : En e) : betw (L ++ e :: A) R = betw L R := by
  obtain ⟨h1, h2⟩ := he
  have hs : spk (L ++ e :: A) = spk L ++ e :: A := spk_app (by rcases h1 with h | h <;> simp [h])
  have hn : ∀ L : List U, num (L ++ e :: A) = num L := fun L => num_app (by rcases h1 with h | h <;> simp [h])
  have ho : oddR (L ++ e :: A) = oddR L := odd_app (by rcases h1 with h | h <;> simp [h])
  have hK : ∀ c : Int, c ≠ 99 → c ≠ 1 → c ≠ 3 → (at0 (spk L ++ e :: A) == c) = (at0 (spk L) == c) := by
    intro c c1 c2 c3
    cases spk L with
    | nil => rcases h1 with h | h <;> simp only [List.nil_append, at0, h] <;> rw [beq_eq_false_iff_ne.2 (by omega), beq_eq_false_iff_ne.2 (by omega)]
    | cons k t => rfl
  have hop : (opnL (spk L ++ e :: A) && inO (at0 ((spk L ++ e :: A).drop 1))) = (opnL (spk L) && inO (at0 ((spk L).drop 1))) := by
    match spk L with
    | [] => rcases h1 with h | h <;> simp [opnL, opn, h]
    | [k] => rcases h1 with h | h <;> simp [opnL, at0, inO, h]
    | k :: k2 :: t => rfl
  match L, hL with
  | x :: t, _ =>
    have n2 : num ((x :: t ++ e :: A).drop 1) = num ((x :: t).drop 1) := hn t
    have d1 : inH (at0 ((x :: t ++ e :: A).drop 1)) = inH (at0 ((x :: t).drop 1)) := by
      cases t with
      | nil => rcases h1 with h | h <;> simp [at0, inH, h]
      | cons y t => rfl
    have d2 : (at0 ((x :: t ++ e :: A).drop 1) == 28) = (at0 ((x :: t).drop 1) == 28) := by
      cases t with
      | nil => rcases h1 with h | h <;> simp [at0, h]
      | cons y t => rfl
    have d3 : narrow ((x :: t ++ e :: A).drop 1) = narrow ((x :: t).drop 1) := by
      cases t with
      | nil => simp [narrow, h2]
      | cons y t => rfl
    unfold betw
    simp only [hs, hK 6 (by decide) (by decide) (by decide), hK 19 (by decide) (by decide) (by decide), hK 21 (by decide) (by decide) (by decide), hK 20 (by decide) (by decide) (by decide), hK 13 (by decide) (by decide) (by decide), hop, n2, d1, d2, d3, hn (x :: t), ho]
    rfl
section
variable (cls : Int → Int) (wd : Int → Bool)
def nw (x : Int) : U := (if mark (cls x) then 0 else cls x, x, 1, cls x == 10, wd x)
def upd (u : U) (x : Int) : U := (u.1, u.2.1, u.2.2.1 + 1, cls x == 10, u.2.2.2.2)
def unF (u : U) : List Int → List U
  | [] => [u]
  | x :: l => if mark (cls x) && !spaced u.1 then unF (upd cls u x) l else u :: unF (nw cls wd x) l
def uns : List Int → List U
  | [] => []
  | x :: l => unF cls wd (nw cls wd x) l
end
def zs (n : Int) : List Int := List.replicate (n - 1).toNat 0
def body (L : List U) : List U → List Int
  | [] => []
  | u :: R => (if L.isEmpty then 0 else betw L (u :: R)) :: (zs u.2.2.1 ++ body (u :: L) R)
def brk (cls : Int → Int) (wd : Int → Bool) (l : List Int) : List Int := body [] (uns cls wd l) ++ [2]
def bodyT (T : List U) (L : List U) : List U → List Int
  | [] => []
  | u :: R => (if L.isEmpty then 0 else betw L (u :: R ++ T)) :: (zs u.2.2.1 ++ bodyT T (u :: L) R)
theorem body_app (T : List U) : ∀ (L R : List U), body L (R ++ T) = bodyT T L R ++ body (R.reverse ++ L) T
  | L, [] => by simp [bodyT]
  | L, u :: R => by
    have := body_app T (u :: L) R
    simp [body, bodyT, this, List.append_assoc]
theorem bodyT_end {B : List U} {e : U} (he : En e) : ∀ (L R : List U), bodyT (e :: B) L R = body L R
  | L, [] => rfl
  | L, u :: R => by
    simp only [body, bodyT, bodyT_end he (u :: L) R]
    rw [betw_right (List.cons_ne_nil u R) he]
theorem body_left {A : List U} {e : U} (he : En e) : ∀ (L R : List U), L ≠ [] → body (L ++ e :: A) R = body L R
  | L, [], _ => rfl
  | L, u :: R, hL => by
    have h := body_left (A := A) he (u :: L) R (by simp)
    simp only [List.cons_append] at h
    simp only [body, h]
    rw [betw_left hL he]
    cases L with
    | nil => exact absurd rfl hL
    | cons a t => rfl
section
variable {cls : Int → Int} {wd : Int → Bool}
theorem unF_ne (u : U) (l : List Int) : unF cls wd u l ≠ [] := by
  induction l generalizing u with
  | nil => simp [unF]
  | cons x l ih => simp only [unF]; split <;> simp [ih]
theorem unF_end {e : Int} (he : mark (cls e) = false) (hs : spaced (cls e) = true) (b : List Int) : ∀ (u : U) (a : List Int),
    unF cls wd u (a ++ e :: b) = unF cls wd u a ++ nw cls wd e :: uns cls wd b
  | u, [] => by
    simp only [List.nil_append, unF, he, Bool.false_and, Bool.false_eq_true, if_false, List.cons_append]
    congr 1
    cases b with
    | nil => rfl
    | cons x b =>
      have : spaced (nw cls wd e).1 = true := by simp [nw, he, hs]
      simp [unF, this, uns]
  | u, x :: a => by
    simp only [List.cons_append, unF]
    split
    · exact unF_end he hs b _ a
    · rw [unF_end he hs b _ a]; rfl
theorem uns_end {e : Int} (he : mark (cls e) = false) (hs : spaced (cls e) = true) (a b : List Int) :
    uns cls wd (a ++ e :: b) = uns cls wd a ++ nw cls wd e :: uns cls wd b := by
  cases a with
  | nil =>
    have h := unF_end (wd := wd) he hs b (0, 0, 1, false, false) []
    simp [uns, unF] at h ⊢
    simpa [he] using h
  | cons x a => simp only [List.cons_append, uns]; exact unF_end he hs b _ a
theorem betw_first {e u : U} {A R : List U} (he : En e) : betw (e :: A) (u :: R) = if e.1 = 3 ∨ e.1 = 1 then 2 else 2 := by
  obtain ⟨h1, h2⟩ := he
  rcases h1 with h | h <;> simp [betw, rul, at0, h]
theorem betw_end {e : U} {L R : List U} (he : En e) : betw L (e :: R) = if at0 L == 1 then 2 else if at0 L == 2 && e.1 == 3 then 0 else if at0 L == 2 || at0 L == 3 || at0 L == 4 then 2 else 0 := by
  obtain ⟨h1, h2⟩ := he
  have h : spaced e.1 = true := by rcases h1 with h | h <;> simp [spaced, h]
  have hq : at0 (e :: R) = e.1 := rfl
  simp only [betw, rul, hq, h, if_true]
theorem body_behind {e : U} {A : List U} (he : En e) (R : List U) : body (e :: A) R ++ [2] = 2 :: (body [] R ++ [2]).tail := by
  cases R with
  | nil => rfl
  | cons u R =>
    simp only [body, betw_first he]
    have := body_left (A := A) he [u] R (by simp)
    simp only [List.cons_append, List.nil_append] at this
    simp [this]
theorem brk_end {e : Int} (he : En (nw cls wd e)) (hm : mark (cls e) = false) (hs : spaced (cls e) = true) (a b : List Int) :
    ∃ x, brk cls wd (a ++ e :: b) = body [] (uns cls wd a) ++ x :: 2 :: (brk cls wd b).tail
      ∧ x = if a = [] then 0 else betw (uns cls wd a).reverse [nw cls wd e] := by
  refine ⟨_, ?_, rfl⟩
  have h1 : (nw cls wd e).2.2.1 = 1 := rfl
  rw [brk, uns_end hm hs, body_app, bodyT_end he]
  simp only [body, List.append_assoc, h1, List.append_nil]
  have h := body_behind (A := (uns cls wd a).reverse) he (uns cls wd b)
  have hx : (if (uns cls wd a).reverse.isEmpty = true then (0 : Int) else betw (uns cls wd a).reverse (nw cls wd e :: uns cls wd b)) = if a = [] then 0 else betw (uns cls wd a).reverse [nw cls wd e] := by
    cases a with
    | nil => rfl
    | cons y a =>
      have hn : uns cls wd (y :: a) ≠ [] := unF_ne _ _
      simp only [List.isEmpty_reverse, List.isEmpty_iff, hn, if_false, List.cons_ne_nil]
      rw [betw_end he, betw_end he]
  rw [hx]
  simp only [zs, List.cons_append, brk]
  simp
  exact h
theorem last_unF : ∀ (u : U) (l : List Int) (c : Int), (c = 1 ∨ c = 2 ∨ c = 3 ∨ c = 4) → l ≠ [] →
    (((unF cls wd u l).reverse.head?.map (·.1)) = some c ↔ cls (l.getLast?.getD 0) = c)
  | u, [], c, _, h => absurd rfl h
  | u, [x], c, hc, _ => by
    simp only [unF]
    split
    · rename_i h
      simp only [Bool.and_eq_true, Bool.not_eq_true'] at h
      have h2 : mark (cls x) = true := h.1
      simp only [mark, Bool.or_eq_true, beq_iff_eq] at h2
      have h3 := h.2
      simp only [spaced, Bool.or_eq_false_iff, beq_eq_false_iff_ne] at h3
      simp [upd]
      omega
    · simp only [List.reverse_cons, List.reverse_nil, List.nil_append, List.cons_append, List.head?_cons, Option.map_some, nw, List.getLast?_singleton, Option.getD_some, Option.some.injEq]
      split
      · rename_i h
        simp only [mark, Bool.or_eq_true, beq_iff_eq] at h
        omega
      · rfl
  | u, x :: y :: l, c, hc, _ => by
    have e : ((x :: y :: l).getLast?.getD 0) = ((y :: l).getLast?.getD 0) := by simp [List.getLast?_cons]
    rw [unF, e]
    split
    · exact last_unF _ (y :: l) c hc (by simp)
    · have h := last_unF (nw cls wd x) (y :: l) c hc (by simp)
      have : ∀ (v : U) (t : List U), t ≠ [] → (v :: t).reverse.head? = t.reverse.head? := by
        intro v t ht
        rw [List.head?_reverse, List.head?_reverse]
        cases t with
        | nil => exact absurd rfl ht
        | cons a t => simp [List.getLast?_cons]
      rw [this _ _ (unF_ne _ _)]
      exact h
theorem last_uns {l : List Int} {c : Int} (hc : c = 1 ∨ c = 2 ∨ c = 3 ∨ c = 4) (h : l ≠ []) : at0 (uns cls wd l).reverse = c ↔ cls (l.getLast?.getD 0) = c := by
  have a0 : ∀ t : List U, t ≠ [] → (at0 t = c ↔ t.head?.map (·.1) = some c) := by
    intro t ht
    cases t with
    | nil => exact absurd rfl ht
    | cons u t => simp [at0]
  match l, h with
  | [x], _ =>
    simp only [uns, unF, List.reverse_cons, List.reverse_nil, List.nil_append, at0, nw, List.getLast?_singleton, Option.getD_some]
    split
    · rename_i h
      simp only [mark, Bool.or_eq_true, beq_iff_eq] at h
      omega
    · rfl
  | x :: y :: l, _ =>
    rw [a0 _ (by simp [uns, unF_ne])]
    have e : ((x :: y :: l).getLast?.getD 0) = ((y :: l).getLast?.getD 0) := by simp [List.getLast?_cons]
    rw [e]
    exact last_unF _ (y :: l) c hc (by simp)
end
end Sg
