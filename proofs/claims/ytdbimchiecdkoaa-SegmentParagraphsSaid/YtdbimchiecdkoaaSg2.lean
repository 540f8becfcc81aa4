/-
  Lists.
-/
import Derived.Test.YtdbimchiecdkoaaSg1
set_option linter.unusedVariables false
namespace Sg
section
variable {cls : Int → Int} {wd : Int → Bool}
theorem zs_len {n : Int} (h : 1 ≤ n) : ((zs n).length : Int) = n - 1 := by simp [zs]; omega
def cnt : List U → Int | [] => 0 | u :: t => u.2.2.1 + cnt t
def Pos1 (l : List U) : Prop := ∀ u ∈ l, 1 ≤ u.2.2.1
theorem body_len : ∀ (L R : List U), Pos1 R → ((body L R).length : Int) = cnt R
  | L, [], _ => rfl
  | L, u :: R, h => by
    have h1 := h u (List.mem_cons_self ..)
    have h2 := body_len (u :: L) R (fun x hx => h x (List.mem_cons_of_mem _ hx))
    have h3 := zs_len h1
    simp only [body, List.length_cons, List.length_append, cnt]
    omega
theorem unF_pos : ∀ (u : U) (l : List Int), 1 ≤ u.2.2.1 → Pos1 (unF cls wd u l)
  | u, [], h => by intro x hx; simp only [unF, List.mem_singleton] at hx; subst hx; exact h
  | u, x :: l, h => by
    simp only [unF]
    split
    · exact unF_pos _ l (by simp only [upd]; omega)
    · intro y hy
      rcases List.mem_cons.1 hy with rfl | hy
      · exact h
      · exact unF_pos _ l (by simp [nw]) y hy
theorem unF_cnt : ∀ (u : U) (l : List Int), cnt (unF cls wd u l) = u.2.2.1 + l.length
  | u, [] => by simp [unF, cnt]
  | u, x :: l => by
    simp only [unF]
    split
    · rw [unF_cnt _ l]; simp only [upd, List.length_cons]; omega
    · simp only [cnt, unF_cnt _ l, nw, List.length_cons]; omega
theorem uns_pos (l : List Int) : Pos1 (uns cls wd l) := by
  cases l with
  | nil => intro x hx; cases hx
  | cons x l => exact unF_pos _ l (by simp [nw])
theorem uns_cnt (l : List Int) : cnt (uns cls wd l) = l.length := by
  cases l with
  | nil => rfl
  | cons x l => simp only [uns, unF_cnt, nw, List.length_cons]; omega
theorem brk_len (l : List Int) : (brk cls wd l).length = l.length + 1 := by
  have h := body_len [] (uns cls wd l) (uns_pos l)
  rw [uns_cnt] at h
  simp only [brk, List.length_append, List.length_singleton]
  omega
def chF (cls : Int → Int) (wd : Int → Bool) (L : List U) (u : U) : List Int → List Int
  | [] => []
  | x :: l => if mark (cls x) && !spaced u.1 then 0 :: chF cls wd L (upd cls u x) l else betw (u :: L) (unF cls wd (nw cls wd x) l) :: chF cls wd (u :: L) (nw cls wd x) l
def rest (u : U) : Int × Int × Bool × Bool := (u.1, u.2.1, u.2.2.2)
def Like (A B : List U) : Prop := A.map rest = B.map rest
theorem like_cons {a b : U} {A B : List U} : Like (a :: A) (b :: B) ↔ rest a = rest b ∧ Like A B := by simp [Like]
theorem spk_like : ∀ {A B : List U}, Like A B → Like (spk A) (spk B)
  | [], [], _ => rfl
  | [], b :: B, h => by simp [Like] at h
  | a :: A, [], h => by simp [Like] at h
  | a :: A, b :: B, h => by
    have h1 := (like_cons.1 h).1
    have hc : a.1 = b.1 := congrArg (·.1) h1
    simp only [spk, hc]
    split
    · exact spk_like (like_cons.1 h).2
    · exact h
theorem like_fs : ∀ {A B : List U}, Like A B → at0 A = at0 B ∧ opnL A = opnL B ∧ clsL A = clsL B ∧ narrow A = narrow B ∧ r0 A = r0 B ∧ wd0 A = wd0 B ∧ zw0 A = zw0 B
  | [], [], _ => by simp
  | [], b :: B, h => by simp [Like] at h
  | a :: A, [], h => by simp [Like] at h
  | a :: A, b :: B, h => by
    obtain ⟨a1, a2, a3, a4, a5⟩ := a
    obtain ⟨b1, b2, b3, b4, b5⟩ := b
    have h1 := (like_cons.1 h).1
    simp only [rest, Prod.mk.injEq] at h1
    obtain ⟨rfl, rfl, rfl, rfl⟩ := h1
    simp [at0, opnL, clsL, narrow, r0, wd0, zw0]
theorem like_drop {A B : List U} (h : Like A B) (n : Nat) : Like (A.drop n) (B.drop n) := by simp only [Like, List.map_drop] at *; rw [h]
theorem num_like : ∀ {A B : List U}, Like A B → num A = num B
  | [], [], _ => rfl
  | [], b :: B, h => by simp [Like] at h
  | a :: A, [], h => by simp [Like] at h
  | a :: A, b :: B, h => by
    have hc : a.1 = b.1 := congrArg (·.1) (like_cons.1 h).1
    simp only [num, hc, num_like (like_cons.1 h).2]
theorem odd_like : ∀ {A B : List U}, Like A B → oddR A = oddR B
  | [], [], _ => rfl
  | [], b :: B, h => by simp [Like] at h
  | a :: A, [], h => by simp [Like] at h
  | a :: A, b :: B, h => by
    have hc : a.1 = b.1 := congrArg (·.1) (like_cons.1 h).1
    simp only [oddR, hc, odd_like (like_cons.1 h).2]
theorem betw_like {A B L R : List U} (h : Like A B) (h2 : Like L R) : betw A L = betw B R := by
  obtain ⟨a1, a2, a3, a4, a5, a6, a7⟩ := like_fs h
  obtain ⟨c1, c2, c3, c4, c5, c6, c7⟩ := like_fs (like_drop h 1)
  obtain ⟨k1, k2, _⟩ := like_fs (spk_like h)
  obtain ⟨j1, _⟩ := like_fs (like_drop (spk_like h) 1)
  obtain ⟨b1, b2, b3, b4, b5, b6, b7⟩ := like_fs h2
  obtain ⟨d1, d2, d3, d4, d5, d6, d7⟩ := like_fs (like_drop h2 1)
  obtain ⟨e1, _⟩ := like_fs (like_drop h2 2)
  simp only [betw, a1, a3, a4, a5, a6, a7, c1, c4, k1, k2, j1, b1, b2, b3, b4, b6, d1, d4, e1, num_like h, num_like (like_drop h 1), odd_like h]
theorem unF_like : ∀ (u v : U) (l : List Int), rest u = rest v → Like (unF cls wd u l) (unF cls wd v l)
  | u, v, [], h => by simp [unF, Like, h]
  | u, v, x :: l, h => by
    have hc : u.1 = v.1 := congrArg (·.1) h
    simp only [unF, hc]
    split
    · refine unF_like _ _ l ?_
      simp only [rest, Prod.mk.injEq] at h
      simp [rest, upd, h]
    · exact like_cons.2 ⟨h, rfl⟩
theorem chF_like : ∀ (L M : List U) (u v : U) (l : List Int), Like L M → rest u = rest v → chF cls wd L u l = chF cls wd M v l
  | L, M, u, v, [], _, _ => rfl
  | L, M, u, v, x :: l, h, h2 => by
    have hc : u.1 = v.1 := congrArg (·.1) h2
    simp only [chF, hc]
    split
    · rw [chF_like L M (upd cls u x) (upd cls v x) l h (by simp only [rest, Prod.mk.injEq] at h2; simp [rest, upd, h2])]
    · rw [betw_like (like_cons.2 ⟨h2, h⟩) rfl, chF_like (u :: L) (v :: M) _ _ l (like_cons.2 ⟨h2, h⟩) rfl]
theorem zs_app {a b : Int} (ha : 1 ≤ a) (hb : 0 ≤ b) : zs (a + b) = zs a ++ List.replicate b.toNat 0 := by
  simp only [zs, List.replicate_append_replicate]
  congr 1; omega
theorem body_chF (L : List U) : ∀ (u : U) (l : List Int), 1 ≤ u.2.2.1 →
    body L (unF cls wd u l) = (if L.isEmpty then 0 else betw L (unF cls wd u l)) :: (zs u.2.2.1 ++ chF cls wd L u l)
  | u, [], h => by simp [unF, body, chF]
  | u, x :: l, h => by
    simp only [unF, chF]
    split
    · rw [body_chF L (upd cls u x) l (by simp only [upd]; omega)]
      congr 1
      have : zs (upd cls u x).2.2.1 = zs u.2.2.1 ++ [0] := by
        have := zs_app (a := u.2.2.1) (b := 1) h (by omega)
        simpa [upd] using this
      simp [this]
    · simp only [body, body_chF (u :: L) (nw cls wd x) l (by simp [nw])]
      congr 1
theorem brk_chF (x : Int) (l : List Int) : brk cls wd (x :: l) = 0 :: (chF cls wd [] (nw cls wd x) l ++ [2]) := by
  have := body_chF (cls := cls) (wd := wd) [] (nw cls wd x) l (by simp [nw])
  simp only [brk, uns, this]
  simp [nw, zs]
end
end Sg
