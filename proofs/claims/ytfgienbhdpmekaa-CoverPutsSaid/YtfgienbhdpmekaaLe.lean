/-
  Lists: words put and read again; a set in either format.
-/
import Derived.Test.YtfgienbhdpmekaaLd
import Derived.Test.YtfgienbhdpmekaaT7
namespace Go.Proofs.Ytfgienbhdpmekaa
open Go Go.RowKit

/-- words as bytes -/
def flatW (ws : List Int) : List Int := ws.flatMap fun x => [x / 256, x % 256]

theorem flatW_cons (x : Int) (r : List Int) : flatW (x :: r) = x / 256 :: x % 256 :: flatW r := rfl
theorem flatW_append (a b : List Int) : flatW (a ++ b) = flatW a ++ flatW b := List.flatMap_append
theorem flatW_len (ws : List Int) : (flatW ws).length = 2 * ws.length := by
  induction ws with
  | nil => rfl
  | cons x r ih => rw [flatW_cons, List.length_cons, List.length_cons, ih, List.length_cons]; omega

theorem flatW_u8 {ws : List Int} (h : U16 ws) : U8 (flatW ws) := by
  intro y hy
  obtain ⟨x, hx, hy⟩ := List.mem_flatMap.1 hy
  have := h x hx
  simp only [List.mem_cons, List.not_mem_nil, or_false] at hy
  rcases hy with rfl | rfl <;> omega

theorem flatW_at : ∀ (ws : List Int) (j : Nat), j < ws.length → (flatW ws).getD (2 * j) 0 = ws.getD j 0 / 256 ∧ (flatW ws).getD (2 * j + 1) 0 = ws.getD j 0 % 256
  | [], j, h => by cases h
  | x :: r, 0, _ => ⟨rfl, rfl⟩
  | x :: r, j + 1, h => by
    have ih := flatW_at r j (by simpa using h)
    rw [flatW_cons]
    simpa [List.getD_eq_getElem?_getD, show 2 * (j + 1) = 2 * j + 1 + 1 by omega] using ih

theorem wdv_flat (ws : List Int) (j : Nat) (hj : j < ws.length) : wdv (flatW ws) (2 * (j : Int)) = ws.getD j 0 := by
  obtain ⟨h1, h2⟩ := flatW_at ws j hj
  unfold wdv
  rw [show (2 * (j : Int)).toNat = 2 * j by omega, h1, h2]
  omega

theorem has_flat (ws : List Int) (j : Nat) (n : Int) (h0 : 0 ≤ n) (h1 : (j : Int) + n ≤ ws.length) : hasB (flatW ws) (2 * (j : Int)) n 2 = true := by
  unfold hasB
  rw [flatW_len]
  exact decide_eq_true (by omega)

theorem rdv_flat (ws : List Int) (j : Nat) (hj : j < ws.length) : rdv (flatW ws) (2 * (j : Int)) = ws.getD j 0 := by
  unfold rdv
  rw [if_pos (has_flat ws j 1 (by decide) (by omega)), wdv_flat ws j hj]

theorem wds_flat (ws : List Int) (j n : Nat) (h : j + n ≤ ws.length) : wds (flatW ws) (2 * (j : Int)) n = (ws.drop j).take n := by
  apply List.ext_getElem
  · rw [wds_len, List.length_take, List.length_drop]; omega
  · intro i h1 h2
    rw [wds_len] at h1
    have e : (wds (flatW ws) (2 * (j : Int)) n)[i]'(by rw [wds_len]; exact h1) = wdv (flatW ws) (2 * (j : Int) + 2 * (i : Int)) := by simp [wds]
    rw [e, show 2 * (j : Int) + 2 * (i : Int) = 2 * ((j + i : Nat) : Int) by omega, wdv_flat ws (j + i) (by omega)]
    simp [List.getD_eq_getElem?_getD, List.getElem?_eq_getElem (show j + i < ws.length by omega)]

theorem b2_hi {x : Int} (h : 0 ≤ x ∧ x ≤ 65535) : IntKind.u8.wrap (Int.fdiv x 256) = x / 256 := by
  rw [Int.fdiv_eq_ediv_of_nonneg _ (by decide), w8 (by omega) (by omega)]
theorem b2_lo (x : Int) : IntKind.u8.wrap x = x % 256 := IntKind.wrap_u8 x

/-! ### coverages, with where they end -/
def covE (g : Int) : List (Int × Int × Int) → List Int → Int → Option (List Int × Int)
  | [], l, e => some (l, e)
  | (a, z, k) :: r, l, e => if e < a ∧ a ≤ z ∧ z < g ∧ k = (l.length : Int) then covE g r (l ++ upI a z) z else none

theorem covI_of {g : Int} : ∀ {its : List (Int × Int × Int)} {l : List Int} {e : Int} {r : List Int × Int}, covE g its l e = some r → covI g its l e = some r.1
  | [], _, _, _, h => by rw [← Option.some.inj h]; rfl
  | (a, z, k) :: t, l, e, r, h => by
    rw [covE] at h
    rw [covI]
    split at h
    · rename_i hc; rw [if_pos hc]; exact covI_of h
    · cases h

theorem covE_append {g : Int} (b : List (Int × Int × Int)) : ∀ (a : List (Int × Int × Int)) (l : List Int) (e : Int) (l' : List Int) (e' : Int), covE g a l e = some (l', e') → covE g (a ++ b) l e = covE g b l' e'
  | [], l, e, l', e', h => by
    injection h with h; injection h with h1 h2; subst h1; subst h2; rfl
  | (a, z, k) :: t, l, e, l', e', h => by
    rw [covE] at h
    rw [List.cons_append, covE]
    split at h
    · rename_i hc; rw [if_pos hc]; exact covE_append b t _ _ _ _ h
    · cases h

/-- rising -/
def Rise (l : List Int) : Prop := ∀ i, i + 1 < l.length → l.getD i 0 < l.getD (i + 1) 0

theorem upI_one (x : Int) : upI x x = [x] := by rw [upI_step (Int.le_refl x), upI_nil (by omega)]

theorem listed_append : ∀ (a b : List Int) (s : Nat), listedI (a ++ b) s = listedI a s ++ listedI b (s + a.length)
  | [], b, s => rfl
  | x :: r, b, s => by rw [List.cons_append, listedI, listed_append r b (s + 1), listedI, List.cons_append, List.length_cons, show s + 1 + r.length = s + (r.length + 1) by omega]

theorem take_succ_getD {l : List Int} {i : Nat} (h : i < l.length) : l.take (i + 1) = l.take i ++ [l.getD i 0] := by
  rw [List.take_add_one, List.getElem?_eq_getElem h, List.getD_eq_getElem?_getD, List.getElem?_eq_getElem h]; rfl

/-- glyphs that rise, each by itself -/
theorem listed_rise (l : List Int) (hU : U16 l) (hr : Rise l) : ∀ n, n ≤ l.length → covE 65536 (listedI (l.take n) 0) [] (-1) = some (l.take n, if n = 0 then -1 else l.getD (n - 1) 0) := by
  intro n
  induction n with
  | zero => intro _; rfl
  | succ n ih =>
    intro hn
    rw [take_succ_getD (by omega), listed_append, covE_append _ _ _ _ _ _ (ih (by omega)), List.length_take, Nat.min_eq_left (by omega)]
    have hx := hU.at n
    have hlt : (if n = 0 then (-1 : Int) else l.getD (n - 1) 0) < l.getD n 0 := by
      split
      · omega
      · have := hr (n - 1) (by omega)
        rwa [show n - 1 + 1 = n by omega] at this
    rw [listedI, covE, if_pos ⟨hlt, Int.le_refl _, by omega, by simp; omega⟩, upI_one]
    rfl

theorem covR_listed (l : List Int) (hU : U16 l) (hr : Rise l) (h1 : 1 ≤ l.length) (h2 : l.length ≤ 65535) : covR 65536 (some (listedI l 0)) true = (l, 0) := by
  have h := covI_of (listed_rise l hU hr l.length (Nat.le_refl _))
  rw [List.take_of_length_le (Nat.le_refl _)] at h
  unfold covR
  simp only [if_true]
  rw [h]
  simp only []
  rw [if_pos ⟨h1, h2⟩]

/-- bytes of the format 1 -/
theorem its_one (l : List Int) (hl : l.length ≤ 65535) : covIts (flatW (1 :: (l.length : Int) :: l)) 0 = (some (listedI l 0), true) := by
  have e0 : rdv (flatW (1 :: (l.length : Int) :: l)) 0 = 1 := rdv_flat _ 0 (by simp)
  have e1 : rdv (flatW (1 :: (l.length : Int) :: l)) (0 + 2) = (l.length : Int) := rdv_flat (1 :: (l.length : Int) :: l) 1 (by simp)
  have h0 : hasB (flatW (1 :: (l.length : Int) :: l)) 0 1 2 = true := has_flat _ 0 1 (by decide) (by simp; omega)
  have h1 : hasB (flatW (1 :: (l.length : Int) :: l)) (0 + 2) 1 2 = true := has_flat (1 :: (l.length : Int) :: l) 1 1 (by decide) (by simp; omega)
  have h2 : hasB (flatW (1 :: (l.length : Int) :: l)) (0 + 4) (l.length : Int) 2 = true := has_flat (1 :: (l.length : Int) :: l) 2 _ (by omega) (by simp; omega)
  have h3 : wds (flatW (1 :: (l.length : Int) :: l)) (0 + 4) l.length = l := by
    have := wds_flat (1 :: (l.length : Int) :: l) 2 l.length (by simp; omega)
    rw [show (0 : Int) + 4 = 2 * ((2 : Nat) : Int) by decide, this]
    simp
  unfold covIts
  rw [e1, if_pos e0, h0, h1, h2]
  simp only [if_true, Int.toNat_natCast, h3]
  rfl

/-- ranges as words -/
def flat3 (its : List (Int × Int × Int)) : List Int := its.flatMap fun x => [x.1, x.2.1, x.2.2]

theorem flat3_len (its : List (Int × Int × Int)) : (flat3 its).length = 3 * its.length := by
  induction its with
  | nil => rfl
  | cons x r ih => rw [flat3, List.flatMap_cons, List.length_append, ← flat3, ih, List.length_cons]; simp; omega

theorem flat3_append (a b : List (Int × Int × Int)) : flat3 (a ++ b) = flat3 a ++ flat3 b := List.flatMap_append

theorem flat3_u16 {its : List (Int × Int × Int)} (h : ∀ x ∈ its, (0 ≤ x.1 ∧ x.1 ≤ 65535) ∧ (0 ≤ x.2.1 ∧ x.2.1 ≤ 65535) ∧ 0 ≤ x.2.2 ∧ x.2.2 ≤ 65535) : U16 (flat3 its) := by
  intro y hy
  obtain ⟨x, hx, hy⟩ := List.mem_flatMap.1 hy
  have := h x hx
  simp only [List.mem_cons, List.not_mem_nil, or_false] at hy
  rcases hy with rfl | rfl | rfl <;> omega

theorem ranged_flat3 : ∀ its : List (Int × Int × Int), rangedI (flat3 its) = its
  | [] => rfl
  | (a, z, k) :: r => by
    show rangedI (a :: z :: k :: flat3 r) = _
    rw [rangedI, ranged_flat3 r]

/-- bytes of the format 2 -/
theorem its_two (its : List (Int × Int × Int)) (hn : its.length ≤ 65535) : covIts (flatW (2 :: (its.length : Int) :: flat3 its)) 0 = (some its, true) := by
  have hL : (2 :: (its.length : Int) :: flat3 its).length = 3 * its.length + 2 := by rw [List.length_cons, List.length_cons, flat3_len]
  have e0 : rdv (flatW (2 :: (its.length : Int) :: flat3 its)) 0 = 2 := rdv_flat _ 0 (by simp)
  have e1 : rdv (flatW (2 :: (its.length : Int) :: flat3 its)) (0 + 2) = (its.length : Int) := rdv_flat (2 :: (its.length : Int) :: flat3 its) 1 (by simp)
  have h0 : hasB (flatW (2 :: (its.length : Int) :: flat3 its)) 0 1 2 = true := has_flat _ 0 1 (by decide) (by rw [hL]; omega)
  have h1 : hasB (flatW (2 :: (its.length : Int) :: flat3 its)) (0 + 2) 1 2 = true := has_flat (2 :: (its.length : Int) :: flat3 its) 1 1 (by decide) (by rw [hL]; omega)
  have h2 : hasB (flatW (2 :: (its.length : Int) :: flat3 its)) (0 + 4) (3 * (its.length : Int)) 2 = true := has_flat (2 :: (its.length : Int) :: flat3 its) 2 _ (by omega) (by rw [hL]; omega)
  have h3 : wds (flatW (2 :: (its.length : Int) :: flat3 its)) (0 + 4) (3 * (its.length : Int)).toNat = flat3 its := by
    have := wds_flat (2 :: (its.length : Int) :: flat3 its) 2 (3 * (its.length : Int)).toNat (by rw [hL]; omega)
    rw [show (0 : Int) + 4 = 2 * ((2 : Nat) : Int) by decide, this]
    simp only [List.drop_succ_cons, List.drop_zero]
    exact List.take_of_length_le (by rw [flat3_len]; omega)
  unfold covIts
  rw [e1, if_neg (by rw [e0]; decide), if_pos e0, h0, h1, h2]
  simp only [if_true, h3, ranged_flat3]
  rfl

/-! ### the statement's own loops -/
/-- side by side from one place to another -/
def Side (l : List Int) (i k : Nat) : Prop := ∀ j, i ≤ j → j < k → l.getD (j + 1) 0 = l.getD j 0 + 1

theorem both2 (N : Nat) (l : List Int) (hU : U16 l) (hl : l.length ≤ 1000) : ∀ (f x : Nat), x < l.length → l.length - x < f → ∃ k : Nat, fBoth_L2 N l f (x : Int) = some (k : Int) ∧ x ≤ k ∧ k < l.length ∧ Side l x k := by
  intro f
  induction f with
  | zero => intro x _ h; omega
  | succ f ih =>
    intro x hx hf
    rw [fBoth_L2, w64 (by omega) (by omega)]
    have stay : ∃ k : Nat, (some (x : Int)) = some (k : Int) ∧ x ≤ k ∧ k < l.length ∧ Side l x k := ⟨x, rfl, Nat.le_refl _, hx, fun j h1 h2 => by omega⟩
    by_cases h : (x : Int) + 1 < (l.length : Int)
    · rw [if_pos h, ix_nat hx]
      simp only [Option.bind_some]
      by_cases h2 : l.getD x 0 < 65535
      · have h3 := hU.at x
        rw [if_pos h2, show (x : Int) + 1 = ((x + 1 : Nat) : Int) by omega, ix_nat (by omega)]
        simp only [Option.bind_some]
        rw [w16 (by omega) (by omega)]
        by_cases h4 : l.getD (x + 1) 0 = l.getD x 0 + 1
        · rw [if_pos h4]
          obtain ⟨k, e1, e2, e3, e4⟩ := ih (x + 1) (by omega) (by omega)
          refine ⟨k, e1, by omega, e3, fun j h5 h6 => ?_⟩
          by_cases h7 : j = x
          · subst h7; exact h4
          · exact e4 j (by omega) h6
        · rw [if_neg h4]; exact stay
      · rw [if_neg h2]; exact stay
    · rw [if_neg h]; exact stay

theorem both3 (N : Nat) (l : List Int) (hU : U16 l) (hl : l.length ≤ 1000) (k : Nat) (hk : k < l.length) : ∀ (f x : Nat) (o : List Int), x ≤ k + 1 → k + 1 - x < f → o.length + 2 * (k + 1 - x) ≤ 1000000000 → fBoth_L3 N l (k : Int) f o (x : Int) = some (o ++ flatW ((l.drop x).take (k + 1 - x))) := by
  intro f
  induction f with
  | zero => intro x o _ h; omega
  | succ f ih =>
    intro x o hx hf ho
    rw [fBoth_L3]
    by_cases h : (x : Int) ≤ (k : Int)
    · have h3 := hU.at x
      rw [if_pos h, ix_nat (by omega)]
      simp only [Option.bind_some]
      rw [apx_eq (by simp; omega), b2_hi h3, b2_lo, w64 (by omega) (by omega), show (x : Int) + 1 = ((x + 1 : Nat) : Int) by omega]
      simp only [Option.bind_some]
      rw [ih (x + 1) _ (by omega) (by omega) (by simp; omega), drop_cons (l := l) (x := x) (by omega), show k + 1 - x = (k + 1 - (x + 1)) + 1 by omega, List.take_succ_cons, flatW_cons]
      simp
    · rw [if_neg h, show k + 1 - x = 0 by omega]
      simp [flatW]

theorem side_up (l : List Int) (i k : Nat) (hk : k < l.length) (hik : i ≤ k) (hs : Side l i k) : l.getD k 0 = l.getD i 0 + ((k - i : Nat) : Int) ∧ upI (l.getD i 0) (l.getD k 0) = (l.drop i).take (k + 1 - i) := by
  obtain ⟨d, hd⟩ : ∃ d, d = k - i := ⟨_, rfl⟩
  induction d generalizing i with
  | zero =>
    obtain rfl : i = k := by omega
    rw [upI_one, drop_cons hk, show i + 1 - i = 0 + 1 by omega, List.take_succ_cons]
    simp
  | succ d ih =>
    obtain ⟨e1, e2⟩ := ih (i + 1) (by omega) (fun j h1 h2 => hs j (by omega) h2) (by omega)
    have h0 := hs i (Nat.le_refl _) (by omega)
    have e3 : l.getD k 0 = l.getD i 0 + ((k - i : Nat) : Int) := by rw [e1, h0]; omega
    refine ⟨e3, ?_⟩
    rw [upI_step (by omega), ← h0, e2, drop_cons (by omega : i < l.length), show k + 1 - i = (k + 1 - (i + 1)) + 1 by omega, List.take_succ_cons]

/-- where the outer loop stands -/
structure BothAt (l : List Int) (i : Nat) (R : List (Int × Int × Int)) : Prop where
  le : i ≤ l.length
  rise : ∀ j, j + 1 < i → l.getD j 0 < l.getD (j + 1) 0
  cov : covE 65536 R [] (-1) = some (l.take i, if i = 0 then -1 else l.getD (i - 1) 0)
  num : R.length ≤ i
  all : ∀ x ∈ R, (0 ≤ x.1 ∧ x.1 ≤ 65535) ∧ (0 ≤ x.2.1 ∧ x.2.1 ≤ 65535) ∧ 0 ≤ x.2.2 ∧ x.2.2 ≤ 65535

theorem both1 (l : List Int) (hU : U16 l) (hl : l.length ≤ 1000) : ∀ (f i : Nat) (R : List (Int × Int × Int)), BothAt l i R → l.length - i < f →
    ∃ c, fBoth_L1 200000 l f (flatW (1 :: (l.length : Int) :: l.take i)) (flatW (flat3 R)) (R.length : Int) (i : Int) = some c ∧
      (match c with
       | Ctl.ret b => b = true
       | Ctl.go s => ∃ R', BothAt l l.length R' ∧ s = (flatW (1 :: (l.length : Int) :: l), flatW (flat3 R'), (R'.length : Int))) := by
  intro f
  induction f with
  | zero => intro i R _ h; omega
  | succ f ih =>
    intro i R hA hf
    have hA' := hA
    obtain ⟨hle, hrise, hcov, hnum, hall⟩ := hA
    rw [fBoth_L1]
    by_cases h : (i : Int) < (l.length : Int)
    · rw [if_pos h]
      have main : (i = 0 ∨ l.getD (i - 1) 0 < l.getD i 0) → ∃ c, (((fBoth_L2 200000 l 200000 (i : Int) : Option (Int)).bind fun x100 => ((ix l (i : Int)).bind fun x129 => ((ix l (i : Int)).bind fun x131 => ((ix l x100).bind fun x133 => ((ix l x100).bind fun x135 => ((apx (flatW (flat3 R)) ([(IntKind.u8.wrap (Int.fdiv x129 256)), (IntKind.u8.wrap x131), (IntKind.u8.wrap (Int.fdiv x133 256)), (IntKind.u8.wrap x135), (IntKind.u8.wrap (Int.fdiv (i : Int) 256)), (IntKind.u8.wrap (i : Int))])).bind fun l139 => ((fBoth_L3 200000 l x100 200000 (flatW (1 :: (l.length : Int) :: l.take i)) (i : Int) : Option (List Int)).bind fun l151 => fBoth_L1 200000 l f l151 l139 (IntKind.i64.wrap ((R.length : Int) + 1)) (IntKind.i64.wrap (x100 + 1))))))))) = some c ∧
          (match c with
           | Ctl.ret b => b = true
           | Ctl.go s => ∃ R', BothAt l l.length R' ∧ s = (flatW (1 :: (l.length : Int) :: l), flatW (flat3 R'), (R'.length : Int)))) := by
        intro hgt
        obtain ⟨k, e1, e2, e3, e4⟩ := both2 200000 l hU hl 200000 i (by omega) (by omega)
        obtain ⟨e5, e6⟩ := side_up l i k e3 e2 e4
        have hi := hU.at i
        have hk := hU.at k
        rw [e1]
        simp only [Option.bind_some]
        rw [ix_nat (by omega), ix_nat e3]
        simp only [Option.bind_some]
        rw [apx_eq (by rw [flatW_len, flat3_len]; simp; omega)]
        simp only [Option.bind_some]
        rw [both3 200000 l hU hl k e3 200000 i _ (by omega) (by omega) (by rw [flatW_len]; simp; omega)]
        simp only [Option.bind_some]
        rw [w64 (by omega) (by omega), w64 (by omega) (by omega), b2_hi hi, b2_hi hk, b2_hi (by omega : 0 ≤ (i : Int) ∧ (i : Int) ≤ 65535), b2_lo, b2_lo, b2_lo]
        have hR : flatW (flat3 R) ++ [l.getD i 0 / 256, l.getD i 0 % 256, l.getD k 0 / 256, l.getD k 0 % 256, (i : Int) / 256, (i : Int) % 256] = flatW (flat3 (R ++ [(l.getD i 0, l.getD k 0, (i : Int))])) := by
          rw [flat3_append, flatW_append]; rfl
        have hT : l.take i ++ (l.drop i).take (k + 1 - i) = l.take (k + 1) := by
          rw [show k + 1 = i + (k + 1 - i) by omega, List.take_add]; congr 2; omega
        have hO : flatW (1 :: (l.length : Int) :: l.take i) ++ flatW ((l.drop i).take (k + 1 - i)) = flatW (1 :: (l.length : Int) :: l.take (k + 1)) := by
          rw [← flatW_append, List.cons_append, List.cons_append, hT]
        rw [hR, hO, show (R.length : Int) + 1 = ((R ++ [(l.getD i 0, l.getD k 0, (i : Int))]).length : Int) by simp, show (k : Int) + 1 = ((k + 1 : Nat) : Int) by omega]
        refine ih (k + 1) _ ⟨by omega, fun j hj => ?_, ?_, by simp; omega, fun x hx => ?_⟩ (by omega)
        · by_cases h1 : j + 1 < i
          · exact hrise j h1
          · by_cases h2 : j + 1 = i
            · rcases hgt with h3 | h3
              · omega
              · rw [show i - 1 = j by omega] at h3; rwa [h2]
            · have := e4 j (by omega) (by omega); omega
        · have hlt : (if i = 0 then (-1 : Int) else l.getD (i - 1) 0) < l.getD i 0 := by
            split
            · omega
            · rcases hgt with h3 | h3
              · omega
              · exact h3
          rw [covE_append _ _ _ _ _ _ hcov, covE, if_pos ⟨hlt, by omega, by omega, by simp; omega⟩, e6, hT, covE, if_neg (by omega)]
          rfl
        · rcases List.mem_append.1 hx with hx | hx
          · exact hall x hx
          · obtain rfl := List.mem_singleton.1 hx
            exact ⟨hi, hk, by show (0 : Int) ≤ (i : Int); omega, by show (i : Int) ≤ 65535; omega⟩
      by_cases h0 : (i : Int) > 0
      · rw [if_pos h0, ix_nat (by omega), w64 (by omega) (by omega), show (i : Int) - 1 = ((i - 1 : Nat) : Int) by omega, ix_nat (by omega)]
        simp only [Option.bind_some]
        by_cases h1 : l.getD i 0 ≤ l.getD (i - 1) 0
        · rw [if_pos h1, works_true]
          exact ⟨_, rfl, rfl⟩
        · rw [if_neg h1]
          have m := main (.inr (by omega))
          rw [ix_nat (by omega)] at m
          simp only [Option.bind_some] at m
          exact m
      · rw [if_neg h0]
        exact main (.inl (by omega))
    · rw [if_neg h]
      obtain rfl : i = l.length := by omega
      exact ⟨_, rfl, R, hA', by rw [List.take_of_length_le (Nat.le_refl _)]⟩

/-- a set is the same read from either format -/
theorem both_true (l : List Int) (hU : U16 l) : fBoth 200000 l = some true := by
  unfold fBoth
  by_cases h1 : (l.length : Int) > 1000
  · rw [if_pos h1, works_true]; rfl
  · rw [if_neg h1]
    by_cases h2 : (l.length : Int) = 0
    · rw [if_pos h2, works_true]; rfl
    · rw [if_neg h2]
      simp only [Option.bind_some]
      have hs : [0, 1, IntKind.u8.wrap (Int.fdiv (l.length : Int) 256), IntKind.u8.wrap (l.length : Int)] = flatW (1 :: (l.length : Int) :: l.take 0) := by
        rw [b2_hi (by omega), b2_lo]; rfl
      obtain ⟨c, e1, e2⟩ := both1 l hU (by omega) 200000 0 [] ⟨by omega, fun j hj => by omega, rfl, by simp, fun _ h => by cases h⟩ (by omega)
      rw [hs]
      have e1 : fBoth_L1 200000 l 200000 (flatW (1 :: (l.length : Int) :: l.take 0)) [] 0 0 = some c := e1
      rw [e1]
      cases c with
      | ret b => obtain rfl : b = true := e2; rfl
      | go s =>
        obtain ⟨R, hA, rfl⟩ := e2
        have hR : R.length ≤ l.length := hA.num
        have hU1 : U16 (1 :: (l.length : Int) :: l) := by
          intro x hx
          rcases List.mem_cons.1 hx with rfl | hx
          · decide
          · rcases List.mem_cons.1 hx with rfl | hx
            · omega
            · exact hU x hx
        have hU2 : U8 (flatW (2 :: (R.length : Int) :: flat3 R)) := by
          refine flatW_u8 fun x hx => ?_
          rcases List.mem_cons.1 hx with rfl | hx
          · decide
          · rcases List.mem_cons.1 hx with rfl | hx
            · omega
            · exact flat3_u16 hA.all x hx
        have hs2 : [0, 2, IntKind.u8.wrap (Int.fdiv (R.length : Int) 256), IntKind.u8.wrap (R.length : Int)] ++ flatW (flat3 R) = flatW (2 :: (R.length : Int) :: flat3 R) := by
          rw [b2_hi (by omega), b2_lo]; rfl
        have hrise : Rise l := hA.rise
        obtain ⟨f1, k1⟩ := cov_eq 200000 (by omega) (flatW (1 :: (l.length : Int) :: l)) 0 65536 (flatW_u8 hU1) (by rw [flatW_len]; simp; omega) (by omega) (by omega)
        obtain ⟨f2, k2⟩ := cov_eq 200000 (by omega) (flatW (2 :: (R.length : Int) :: flat3 R)) 0 65536 hU2 (by rw [flatW_len]; simp [flat3_len]; omega) (by omega) (by omega)
        rw [its_one l (by omega)] at k1
        rw [its_two R (by omega)] at k2
        rw [covR_listed l hU hrise (by omega) (by omega)] at k1
        have hc := covI_of hA.cov
        rw [List.take_of_length_le (Nat.le_refl _)] at hc
        have k3 : covR 65536 (some R) true = (l, 0) := by
          unfold covR
          simp only [if_true]
          rw [hc]
          simp only []
          rw [if_pos ⟨by omega, by omega⟩]
        rw [k3] at k2
        simp only [Option.bind_some]
        rw [apx_eq (by rw [flatW_len, flat3_len]; simp; omega), hs2]
        simp only [Option.bind_some]
        rw [open_eq _ _ (by rw [flatW_len]; simp; omega), open_eq _ _ (by rw [flatW_len]; simp [flat3_len]; omega)]
        simp only [Option.bind_some, k1, k2, if_true]
        rw [kWords_same 200000 l (by omega) (by omega), works_true]
        rfl

theorem both_calls (W : World) (a : List Int) (ha : U16 a) {A : Option Addr} {c : Nat} (hr : Vw [] .u16 W A c a) :
    Calls Try.prog 5 #[.slice A a.length c] W fun e W' => e = .returned (.bool true) ∧ Below W.heap.size W W' := by
  refine (fBoth_ok 200000 a A c true (both_true a ha) W hr).mono ?_
  rintro e w ⟨v, rfl, rfl, h⟩
  exact ⟨rfl, h.below⟩
end Go.Proofs.Ytfgienbhdpmekaa
