/-
  Joined.
-/
set_option linter.unusedVariables false
namespace Sg
abbrev U := Int × Int × Int × Bool × Bool
def spaced (c : Int) : Bool := c == 1 || c == 2 || c == 3 || c == 4 || c == 5 || c == 6
def mark (c : Int) : Bool := c == 9 || c == 10
def at0 : List U → Int | [] => 99 | u :: _ => u.1
def spk : List U → List U | [] => [] | u :: t => if u.1 == 5 then spk t else u :: t
def num : List U → Bool | [] => false | u :: t => if u.1 == 24 || u.1 == 23 then num t else u.1 == 27
def oddR : List U → Bool | [] => false | u :: t => if u.1 == 32 then !oddR t else false
def narrow : List U → Bool | [] => true | u :: _ => !u.2.2.2.2
def opn (c r : Int) : Bool := c == 22 && (r == 0xAB || r == 0x2018 || r == 0x201B || r == 0x201C || r == 0x201F || r == 0x2039)
def cls0 (c r : Int) : Bool := c == 22 && (r == 0xBB || r == 0x2019 || r == 0x201D || r == 0x203A)
def opnL : List U → Bool | [] => false | u :: _ => opn u.1 u.2.1
def clsL : List U → Bool | [] => false | u :: _ => cls0 u.1 u.2.1
def r0 : List U → Int | [] => 0 | u :: _ => u.2.1
def wd0 : List U → Bool | [] => false | u :: _ => u.2.2.2.2
def zw0 : List U → Bool | [] => false | u :: _ => u.2.2.2.1
def letter (c : Int) : Bool := c == 0 || c == 28
def hangul (c : Int) : Bool := c == 33 || c == 34 || c == 35 || c == 36 || c == 37
def inO (c : Int) : Bool := c == 99 || c == 1 || c == 2 || c == 3 || c == 4 || c == 19 || c == 22 || c == 8 || c == 5 || c == 6
def inC (c : Int) : Bool := c == 99 || c == 5 || c == 8 || c == 7 || c == 21 || c == 22 || c == 20 || c == 16 || c == 23 || c == 24 || c == 1 || c == 2 || c == 3 || c == 4 || c == 6
def inH (c : Int) : Bool := c == 99 || c == 1 || c == 2 || c == 3 || c == 4 || c == 5 || c == 6 || c == 15 || c == 8
def inX (c : Int) : Bool := c == 21 || c == 20 || c == 16 || c == 24
def idm (c : Int) : Bool := c == 29 || c == 30 || c == 31
def lat (p q : Int) (qop num1 num2 odd1 wP wI : Bool) : Int :=
  if letter p && q == 27 || p == 27 && letter q then 0
  else if p == 26 && idm q || idm p && q == 25 then 0
  else if (p == 26 || p == 25) && letter q || letter p && (q == 26 || q == 25) then 0
  else if (q == 25 || q == 26) && ((p == 21 || p == 20) && num2 || num1) then 0
  else if (p == 25 || p == 26) && (q == 27 || qop) then 0
  else if (p == 14 || p == 23) && q == 27 || num1 && q == 27 then 0
  else if p == 33 && (q == 33 || q == 34 || q == 36 || q == 37) || (p == 34 || p == 36) && (q == 34 || q == 35) || (p == 35 || p == 37) && q == 35 then 0
  else if hangul p && q == 25 || p == 26 && hangul q then 0
  else if letter p && letter q || p == 23 && letter q then 0
  else if (letter p || p == 27) && q == 19 && !wI || p == 20 && !wP && (letter q || q == 27) then 0
  else if p == 32 && q == 32 && odd1 || p == 30 && q == 31 then 0
  else 1
def rul (p q : Int) (zp kzw kop kopn kcl kb2 clI nNU opI clP nwP nwN nwI nwO h10 oB oHL wP wI qop num1 num2 odd1 : Bool) : Int :=
  if p == 1 then 2
  else if p == 2 && q == 3 then 0
  else if p == 2 || p == 3 || p == 4 then 2
  else if spaced q then 0
  else if kzw then 1
  else if zp || p == 7 || q == 7 || p == 8 then 0
  else if q == 8 && p != 5 && p != 11 && p != 14 then 0
  else if inX q || kop then 0
  else if kopn then 0
  else if clI then 0
  else if p == 5 && q == 23 && nNU then 1
  else if q == 23 || kcl && q == 18 || kb2 && q == 13 then 0
  else if p == 5 then 1
  else if q == 22 && !opI || p == 22 && !clP then 0
  else if q == 22 && (nwP || nwN) || p == 22 && (nwI || nwO) then 0
  else if p == 15 || q == 15 then 1
  else if (p == 14 || h10) && q == 0 && oB then 0
  else if q == 11 || q == 14 || q == 18 || p == 12 then 0
  else if oHL && (p == 14 || p == 11 && !wP) && q != 28 then 0
  else if p == 24 && q == 28 || q == 17 then 0
  else lat p q qop num1 num2 odd1 wP wI
def betw (L R : List U) : Int :=
  let K := spk L
  rul (at0 L) (at0 R) (zw0 L) (at0 K == 6) (at0 K == 19) (opnL K && inO (at0 (K.drop 1))) (at0 K == 21 || at0 K == 20) (at0 K == 13)
    (clsL R && inC (at0 (R.drop 1))) (at0 (R.drop 1) == 27) (opnL R) (clsL L) (narrow L) (narrow (R.drop 1)) (narrow R) (narrow (L.drop 1))
    (r0 L == 0x2010) (inH (at0 (L.drop 1))) (at0 (L.drop 1) == 28) (wd0 L) (wd0 R)
    (at0 R == 19 && (at0 (R.drop 1) == 27 || at0 (R.drop 1) == 23 && at0 (R.drop 2) == 27)) (num L) (num (L.drop 1)) (oddR L)
section
variable (cls : Int → Int) (wd : Int → Bool)
def nw (x : Int) : U := (if mark (cls x) then 0 else cls x, x, 1, cls x == 10, wd x)
def upd (u : U) (x : Int) : U := (u.1, u.2.1, u.2.2.1 + 1, cls x == 10, u.2.2.2.2)
def unF (u : U) : List Int → List U
  | [] => [u]
  | x :: l => if mark (cls x) && !spaced u.1 then unF (upd cls u x) l else u :: unF (nw cls wd x) l
def uns : List Int → List U
  | [] => []
  | x :: l => unF cls wd (nw cls wd x) l
end
def zs (n : Int) : List Int := List.replicate (n - 1).toNat 0
def body (L : List U) : List U → List Int
  | [] => []
  | u :: R => (if L.isEmpty then 0 else betw L (u :: R)) :: (zs u.2.2.1 ++ body (u :: L) R)
def brk (cls : Int → Int) (wd : Int → Bool) (l : List Int) : List Int := body [] (uns cls wd l) ++ [2]
end Sg

set_option linter.unusedVariables false
namespace Sg
section
variable {cls : Int → Int} {wd : Int → Bool}
theorem zs_len {n : Int} (h : 1 ≤ n) : ((zs n).length : Int) = n - 1 := by simp [zs]; omega
def cnt : List U → Int | [] => 0 | u :: t => u.2.2.1 + cnt t
def Pos1 (l : List U) : Prop := ∀ u ∈ l, 1 ≤ u.2.2.1
theorem body_len : ∀ (L R : List U), Pos1 R → ((body L R).length : Int) = cnt R
  | L, [], _ => rfl
  | L, u :: R, h => by
    have h1 := h u (List.mem_cons_self ..)
    have h2 := body_len (u :: L) R (fun x hx => h x (List.mem_cons_of_mem _ hx))
    have h3 := zs_len h1
    simp only [body, List.length_cons, List.length_append, cnt]
    omega
theorem unF_pos : ∀ (u : U) (l : List Int), 1 ≤ u.2.2.1 → Pos1 (unF cls wd u l)
  | u, [], h => by intro x hx; simp only [unF, List.mem_singleton] at hx; subst hx; exact h
  | u, x :: l, h => by
    simp only [unF]
    split
    · exact unF_pos _ l (by simp only [upd]; omega)
    · intro y hy
      rcases List.mem_cons.1 hy with rfl | hy
      · exact h
      · exact unF_pos _ l (by simp [nw]) y hy
theorem unF_cnt : ∀ (u : U) (l : List Int), cnt (unF cls wd u l) = u.2.2.1 + l.length
  | u, [] => by simp [unF, cnt]
  | u, x :: l => by
    simp only [unF]
    split
    · rw [unF_cnt _ l]; simp only [upd, List.length_cons]; omega
    · simp only [cnt, unF_cnt _ l, nw, List.length_cons]; omega
theorem uns_pos (l : List Int) : Pos1 (uns cls wd l) := by
  cases l with
  | nil => intro x hx; cases hx
  | cons x l => exact unF_pos _ l (by simp [nw])
theorem uns_cnt (l : List Int) : cnt (uns cls wd l) = l.length := by
  cases l with
  | nil => rfl
  | cons x l => simp only [uns, unF_cnt, nw, List.length_cons]; omega
theorem brk_len (l : List Int) : (brk cls wd l).length = l.length + 1 := by
  have h := body_len [] (uns cls wd l) (uns_pos l)
  rw [uns_cnt] at h
  simp only [brk, List.length_append, List.length_singleton]
  omega
def chF (cls : Int → Int) (wd : Int → Bool) (L : List U) (u : U) : List Int → List Int
  | [] => []
  | x :: l => if mark (cls x) && !spaced u.1 then 0 :: chF cls wd L (upd cls u x) l else betw (u :: L) (unF cls wd (nw cls wd x) l) :: chF cls wd (u :: L) (nw cls wd x) l
def rest (u : U) : Int × Int × Bool × Bool := (u.1, u.2.1, u.2.2.2)
def Like (A B : List U) : Prop := A.map rest = B.map rest
theorem like_cons {a b : U} {A B : List U} : Like (a :: A) (b :: B) ↔ rest a = rest b ∧ Like A B := by simp [Like]
theorem spk_like : ∀ {A B : List U}, Like A B → Like (spk A) (spk B)
  | [], [], _ => rfl
  | [], b :: B, h => by simp [Like] at h
  | a :: A, [], h => by simp [Like] at h
  | a :: A, b :: B, h => by
    have h1 := (like_cons.1 h).1
    have hc : a.1 = b.1 := congrArg (·.1) h1
    simp only [spk, hc]
    split
    · exact spk_like (like_cons.1 h).2
    · exact h
theorem like_fs : ∀ {A B : List U}, Like A B → at0 A = at0 B ∧ opnL A = opnL B ∧ clsL A = clsL B ∧ narrow A = narrow B ∧ r0 A = r0 B ∧ wd0 A = wd0 B ∧ zw0 A = zw0 B
  | [], [], _ => by simp
  | [], b :: B, h => by simp [Like] at h
  | a :: A, [], h => by simp [Like] at h
  | a :: A, b :: B, h => by
    obtain ⟨a1, a2, a3, a4, a5⟩ := a
    obtain ⟨b1, b2, b3, b4, b5⟩ := b
    have h1 := (like_cons.1 h).1
    simp only [rest, Prod.mk.injEq] at h1
    obtain ⟨rfl, rfl, rfl, rfl⟩ := h1
    simp [at0, opnL, clsL, narrow, r0, wd0, zw0]
theorem like_drop {A B : List U} (h : Like A B) (n : Nat) : Like (A.drop n) (B.drop n) := by simp only [Like, List.map_drop] at *; rw [h]
theorem num_like : ∀ {A B : List U}, Like A B → num A = num B
  | [], [], _ => rfl
  | [], b :: B, h => by simp [Like] at h
  | a :: A, [], h => by simp [Like] at h
  | a :: A, b :: B, h => by
    have hc : a.1 = b.1 := congrArg (·.1) (like_cons.1 h).1
    simp only [num, hc, num_like (like_cons.1 h).2]
theorem odd_like : ∀ {A B : List U}, Like A B → oddR A = oddR B
  | [], [], _ => rfl
  | [], b :: B, h => by simp [Like] at h
  | a :: A, [], h => by simp [Like] at h
  | a :: A, b :: B, h => by
    have hc : a.1 = b.1 := congrArg (·.1) (like_cons.1 h).1
    simp only [oddR, hc, odd_like (like_cons.1 h).2]
theorem betw_like {A B L R : List U} (h : Like A B) (h2 : Like L R) : betw A L = betw B R := by
  obtain ⟨a1, a2, a3, a4, a5, a6, a7⟩ := like_fs h
  obtain ⟨c1, c2, c3, c4, c5, c6, c7⟩ := like_fs (like_drop h 1)
  obtain ⟨k1, k2, _⟩ := like_fs (spk_like h)
  obtain ⟨j1, _⟩ := like_fs (like_drop (spk_like h) 1)
  obtain ⟨b1, b2, b3, b4, b5, b6, b7⟩ := like_fs h2
  obtain ⟨d1, d2, d3, d4, d5, d6, d7⟩ := like_fs (like_drop h2 1)
  obtain ⟨e1, _⟩ := like_fs (like_drop h2 2)
  simp only [betw, a1, a3, a4, a5, a6, a7, c1, c4, k1, k2, j1, b1, b2, b3, b4, b6, d1, d4, e1, num_like h, num_like (like_drop h 1), odd_like h]
theorem unF_like : ∀ (u v : U) (l : List Int), rest u = rest v → Like (unF cls wd u l) (unF cls wd v l)
  | u, v, [], h => by simp [unF, Like, h]
  | u, v, x :: l, h => by
    have hc : u.1 = v.1 := congrArg (·.1) h
    simp only [unF, hc]
    split
    · refine unF_like _ _ l ?_
      simp only [rest, Prod.mk.injEq] at h
      simp [rest, upd, h]
    · exact like_cons.2 ⟨h, rfl⟩
theorem chF_like : ∀ (L M : List U) (u v : U) (l : List Int), Like L M → rest u = rest v → chF cls wd L u l = chF cls wd M v l
  | L, M, u, v, [], _, _ => rfl
  | L, M, u, v, x :: l, h, h2 => by
    have hc : u.1 = v.1 := congrArg (·.1) h2
    simp only [chF, hc]
    split
    · rw [chF_like L M (upd cls u x) (upd cls v x) l h (by simp only [rest, Prod.mk.injEq] at h2; simp [rest, upd, h2])]
    · rw [betw_like (like_cons.2 ⟨h2, h⟩) rfl, chF_like (u :: L) (v :: M) _ _ l (like_cons.2 ⟨h2, h⟩) rfl]
theorem zs_app {a b : Int} (ha : 1 ≤ a) (hb : 0 ≤ b) : zs (a + b) = zs a ++ List.replicate b.toNat 0 := by
  simp only [zs, List.replicate_append_replicate]
  congr 1; omega
theorem body_chF (L : List U) : ∀ (u : U) (l : List Int), 1 ≤ u.2.2.1 →
    body L (unF cls wd u l) = (if L.isEmpty then 0 else betw L (unF cls wd u l)) :: (zs u.2.2.1 ++ chF cls wd L u l)
  | u, [], h => by simp [unF, body, chF]
  | u, x :: l, h => by
    simp only [unF, chF]
    split
    · rw [body_chF L (upd cls u x) l (by simp only [upd]; omega)]
      congr 1
      have : zs (upd cls u x).2.2.1 = zs u.2.2.1 ++ [0] := by
        have := zs_app (a := u.2.2.1) (b := 1) h (by omega)
        simpa [upd] using this
      simp [this]
    · simp only [body, body_chF (u :: L) (nw cls wd x) l (by simp [nw])]
      congr 1
theorem brk_chF (x : Int) (l : List Int) : brk cls wd (x :: l) = 0 :: (chF cls wd [] (nw cls wd x) l ++ [2]) := by
  have := body_chF (cls := cls) (wd := wd) [] (nw cls wd x) l (by simp [nw])
  simp only [brk, uns, this]
  simp [nw, zs]
end
end Sg
