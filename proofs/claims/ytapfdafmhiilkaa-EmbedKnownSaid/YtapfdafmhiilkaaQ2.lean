/-
  The program's first strong class.
-/
import Derived.Test.YtapfdafmhiilkaaQ1
namespace Go.Proofs.Ytapfdafmhiilkaa
open Go Go.RowKit
set_option linter.unusedVariables false
set_option linter.unusedSectionVars false
set_option linter.unusedSimpArgs false

/-- where an initiator's PDI is -/
def mtS (l : List Int) (i : Nat) : Int := match closeR 1 (l.drop (i + 1)) with
  | some o => ((i + 1 + o : Nat) : Int)
  | none => -1

theorem pairUp_at {i k : Nat} {out : List Int} {o : Option Nat} (hi : i < out.length) (hk : i < k) (h0 : out.getD i 0 = -1) : (pairUp i k out o).getD i 0 = match o with | some o => ((k + o : Nat) : Int) | none => -1 := by
  cases o with
  | none => exact h0
  | some o =>
    simp only [pairUp]
    rw [List.getD_eq_getElem?_getD, List.getElem?_set_ne (by omega), List.getElem?_set_self hi]
    rfl

theorem pairUp_off {i k x : Nat} {out : List Int} {o : Option Nat} (h1 : x ≠ i) (h2 : x < k) : (pairUp i k out o).getD x 0 = out.getD x 0 := by
  cases o with
  | none => rfl
  | some o =>
    simp only [pairUp]
    rw [List.getD_eq_getElem?_getD, List.getElem?_set_ne (by omega), List.getElem?_set_ne (by omega), List.getD_eq_getElem?_getD]

theorem matchF_at (l : List Int) : ∀ (n i : Nat) (out : List Int), i + n = l.length → out.length = l.length → (∀ x, i ≤ x → x < l.length → isInit (l.getD x 0) = true → out.getD x 0 = -1) →
    (matchF l n i out).length = l.length ∧ ∀ x, x < l.length → isInit (l.getD x 0) = true → (matchF l n i out).getD x 0 = if i ≤ x then mtS l x else out.getD x 0
  | 0, i, out, h, hlen, _ => by
    refine ⟨hlen, fun x hx _ => ?_⟩
    rw [if_neg (by omega)]; rfl
  | n + 1, i, out, h, hlen, hinv => by
    rw [matchF]
    cases hc : isInit (l.getD i 0) with
    | false =>
      rw [if_neg (by decide)]
      obtain ⟨h1, h2⟩ := matchF_at l n (i + 1) out (by omega) hlen (fun x hx => hinv x (by omega))
      refine ⟨h1, fun x hx hin => ?_⟩
      rw [h2 x hx hin]
      have : x ≠ i := by rintro rfl; rw [hc] at hin; cases hin
      by_cases hx2 : i ≤ x
      · rw [if_pos (by omega), if_pos hx2]
      · rw [if_neg (by omega), if_neg hx2]
    | true =>
      rw [if_pos rfl]
      obtain ⟨h1, h2⟩ := matchF_at l n (i + 1) _ (by omega) (by rw [pairUp_len, hlen]) (pairUp_init l i out hinv hlen)
      refine ⟨h1, fun x hx hin => ?_⟩
      rw [h2 x hx hin]
      by_cases hx2 : i + 1 ≤ x
      · rw [if_pos hx2, if_pos (by omega)]
      · rw [if_neg hx2]
        by_cases hx3 : x = i
        · subst hx3
          rw [if_pos (Nat.le_refl _), pairUp_at (by omega) (by omega) (hinv x (Nat.le_refl _) hx hin)]
          rfl
        · rw [if_neg (by omega), pairUp_off hx3 (by omega)]

theorem rep_at (n x : Nat) (hx : x < n) : (List.replicate n (-1 : Int)).getD x 0 = -1 := by rw [List.getD_eq_getElem?_getD, List.getElem?_replicate, if_pos hx]; rfl
theorem matchS_len (l : List Int) : (matchS l).length = l.length :=
  (matchF_at l l.length 0 _ (by omega) (List.length_replicate ..) (fun x _ hx _ => rep_at _ x hx)).1
theorem matchS_at (l : List Int) (x : Nat) (hx : x < l.length) (hin : isInit (l.getD x 0) = true) : (matchS l).getD x 0 = mtS l x := by
  have := (matchF_at l l.length 0 _ (by omega) (List.length_replicate ..) (fun x _ hx _ => rep_at _ x hx)).2 x hx hin
  rw [if_pos (Nat.zero_le _)] at this
  exact this

/-! ### how far what is open reaches -/
theorem rightw_close (iso : Bool) : ∀ (r : List Int) (d : Nat), 1 ≤ d → rightw iso d r = match closeR d r with | some o => rightw iso 0 (r.drop (o + 1)) | none => false
  | [], d, h => by cases d <;> rfl
  | c :: r, d, h => by
    rw [rightw_cons]
    by_cases h11 : c = 11
    · subst h11; rw [closeR_b]; rfl
    rw [if_neg h11]
    have tail : ∀ o : Option Nat, (match o.map (· + 1) with | some o => rightw iso 0 ((c :: r).drop (o + 1)) | none => false) = match o with | some o => rightw iso 0 (r.drop (o + 1)) | none => false := by
      intro o; cases o <;> rfl
    cases hc : isInit c with
    | true => simp only [if_true]; rw [closeR_init hc, tail, rightw_close iso r (d + 1) (by omega)]
    | false =>
      simp only [Bool.false_eq_true, if_false]
      by_cases h23 : c = 23
      · subst h23
        rw [if_pos rfl]
        obtain ⟨e, rfl⟩ : ∃ e, d = e + 1 := ⟨d - 1, by omega⟩
        cases e with
        | zero => rfl
        | succ e =>
          rw [closeR_p (by omega), tail]
          exact rightw_close iso r (e + 1) (by omega)
      · rw [if_neg h23, if_neg (by omega), if_neg (by omega), closeR_o h11 h23 hc, tail, rightw_close iso r d h]

theorem closeR_add : ∀ (r : List Int) (d : Nat), 1 ≤ d → closeR (d + 1) r = (closeR d r).bind fun o => (closeR 1 (r.drop (o + 1))).map (· + (o + 1))
  | [], _, _ => rfl
  | c :: r, d, h => by
    have tail : ∀ o : Option Nat, ((o.map (· + 1)).bind fun o => (closeR 1 ((c :: r).drop (o + 1))).map (· + (o + 1))) = (o.bind fun o => (closeR 1 (r.drop (o + 1))).map (· + (o + 1))).map (· + 1) := by
      intro o
      cases o with
      | none => rfl
      | some o =>
        simp only [Option.map_some, Option.bind_some, List.drop_succ_cons, Option.map_map]
        rfl
    by_cases h11 : c = 11
    · subst h11; rw [closeR_b, closeR_b]; rfl
    cases hc : isInit c with
    | true => rw [closeR_init hc, closeR_init hc, tail, closeR_add r (d + 1) (by omega)]
    | false =>
      by_cases h23 : c = 23
      · subst h23
        rw [closeR_p (by omega), show d + 1 - 1 = d by omega]
        by_cases hd : d = 1
        · subst hd
          rw [closeR_p1]
          simp
        · rw [closeR_p (by omega), tail]
          have := closeR_add r (d - 1) (by omega)
          rw [show d - 1 + 1 = d by omega] at this
          rw [this]
      · rw [closeR_o h11 h23 hc, closeR_o h11 h23 hc, tail, closeR_add r d h]

/-- what the walk over a text's first strong class may rely on -/
def Upto (l : List Int) (iso : Bool) (x fi : Nat) : Prop := (fi = l.length ∧ (iso = true → closeR 1 (l.drop x) = none)) ∨ (iso = true ∧ x ≤ fi ∧ fi < l.length ∧ closeR 1 (l.drop x) = some (fi - x))

def fin4 : Option (Ctl Unit Int) → Option Int := fun o => o.bind fun | Ctl.go () => some 0 | Ctl.ret r => some r

theorem upto_next {l : List Int} {iso : Bool} {x fi : Nat} (h : Upto l iso x fi) (hx : x < l.length) (h11 : l.getD x 0 ≠ 11) (h23 : l.getD x 0 = 23 → iso = false) (hc : isInit (l.getD x 0) = false) : Upto l iso (x + 1) fi := by
  rcases h with ⟨h1, h2⟩ | ⟨h1, h2, h3, h4⟩
  · refine .inl ⟨h1, fun hi => ?_⟩
    have := h2 hi
    rw [drop_e hx] at this
    rw [closeR_o h11 (fun e => by rw [h23 e] at hi; cases hi) hc] at this
    exact Option.map_eq_none_iff.1 this
  · rw [drop_e hx, closeR_o h11 (fun e => by rw [h23 e] at h1; cases h1) hc] at h4
    obtain ⟨o, h5, h6⟩ := Option.map_eq_some_iff.1 h4
    exact .inr ⟨h1, by omega, h3, by rw [h5]; congr 1; omega⟩

theorem upto_leap {l : List Int} {iso : Bool} {x fi o : Nat} (h : Upto l iso x fi) (hx : x < l.length) (hc : isInit (l.getD x 0) = true) (ho : closeR 1 (l.drop (x + 1)) = some o) : Upto l iso (x + 1 + o + 1) fi ∧ (fi < l.length → x + 1 + o + 1 ≤ fi) := by
  have key : closeR 1 (l.drop x) = (closeR 1 (l.drop (x + 1 + o + 1))).map (· + (o + 2)) := by
    rw [drop_e hx, closeR_init hc, closeR_add _ 1 (Nat.le_refl _), ho, Option.bind_some, List.drop_drop, Option.map_map]
    rw [show x + 1 + (o + 1) = x + 1 + o + 1 by omega]
    congr 1
  rcases h with ⟨h1, h2⟩ | ⟨h1, h2, h3, h4⟩
  · refine ⟨.inl ⟨h1, fun hi => ?_⟩, fun h => by omega⟩
    have := h2 hi
    rw [key] at this
    exact Option.map_eq_none_iff.1 this
  · rw [key] at h4
    obtain ⟨p, h5, h6⟩ := Option.map_eq_some_iff.1 h4
    exact ⟨.inr ⟨h1, by omega, h3, by rw [h5]; congr 1; omega⟩, fun _ => by omega⟩

theorem upto_none {l : List Int} {iso : Bool} {x fi : Nat} (h : Upto l iso x fi) (hx : x < fi) (h23 : l.getD x 0 = 23) : iso = false := by
  rcases h with ⟨h1, h2⟩ | ⟨h1, h2, h3, h4⟩
  · cases iso with
    | false => rfl
    | true =>
      have := h2 rfl
      rw [drop_e (by omega), h23, closeR_p1] at this
      cases this
  · rw [drop_e (by omega), h23, closeR_p1] at h4
    injection h4 with h4
    omega

theorem strong_loop (N : Nat) (l : List Int) (iso : Bool) (fi : Nat) (hl : l.length ≤ 400000000) (hto : fi ≤ l.length) : ∀ (k x : Nat), fi - x < k → Upto l iso x fi →
    ∃ r, fin4 (pStrong_L1 N l (matchS l) (fi : Int) k (x : Int)) = some r ∧ decide (r = 2 ∨ r = 3) = rightw iso 0 (l.drop x)
  | 0, _, h, _ => absurd h (Nat.not_lt_zero _)
  | k + 1, x, hk, hu => by
    unfold pStrong_L1
    by_cases hn : x < fi
    · have hx : x < l.length := by omega
      have hm := matchS_len l
      rw [if_pos (by omega), ixe hx, Option.bind_some]
      have hr : rightw iso 0 (l.drop x) = rightw iso 0 (l.getD x 0 :: l.drop (x + 1)) := by rw [drop_e hx]
      rw [hr, rightw_cons]
      have hmt : isInit (l.getD x 0) = true → ix (matchS l) (x : Int) = some (mtS l x) := fun hi => by rw [ixe (by omega), matchS_at l x hx hi]
      have hup := fun a b c => upto_next hu hx a b c
      have hnone := upto_none hu hn
      have hleap := fun (o : Nat) a b => upto_leap (o := o) hu hx a b
      generalize l.getD x 0 = c at hmt hup hnone hleap ⊢
      by_cases h1 : c = 1
      · subst h1
        exact ⟨1, rfl, rfl⟩
      · rw [if_neg h1, pRw_eq]
        simp only [Option.bind_some]
        by_cases h2 : c = 2 ∨ c = 3
        · rw [decide_eq_true h2]
          refine ⟨c, rfl, ?_⟩
          rw [if_neg (by omega), if_neg (by rw [isInit_iff]; omega), if_neg (by omega), if_neg (by omega), if_pos ⟨trivial, h2⟩]
          exact decide_eq_true h2
        · rw [decide_eq_false h2]
          simp only
          by_cases h11 : c = 11
          · subst h11
            exact ⟨0, rfl, rfl⟩
          · rw [if_neg h11, if_neg h11, pInit_eq]
            simp only [Option.bind_some]
            cases hc : isInit c with
            | true =>
              simp only [hmt hc, Option.bind_some, if_true]
              rw [rightw_close iso _ (0 + 1) (Nat.le_refl _), Nat.zero_add]
              unfold mtS
              cases ho : closeR 1 (l.drop (x + 1)) with
              | none =>
                simp only [show (-1 : Int) < 0 by decide, if_true, Option.bind_some]
                exact ⟨0, rfl, rfl⟩
              | some o =>
                simp only
                rw [if_neg (by omega)]
                simp only [Option.bind_some]
                obtain ⟨h3, h4⟩ := hleap o hc ho
                have hol := (close_at _ _ _ ho).2
                rw [List.length_drop] at hol
                rw [wne (x + 1 + o) (by omega), List.drop_drop, show x + 1 + (o + 1) = x + 1 + o + 1 by omega]
                exact strong_loop N l iso fi hl hto k (x + 1 + o + 1) (by omega) h3
            | false =>
              simp only [Option.bind_some, Bool.false_eq_true, if_false]
              rw [wne x (by omega)]
              obtain ⟨r, h3, h4⟩ := strong_loop N l iso fi hl hto k (x + 1) (by omega) (hup h11 hnone hc)
              refine ⟨r, h3, h4.trans ?_⟩
              by_cases h23 : c = 23
              · rw [if_pos h23, hnone h23]; rfl
              · rw [if_neg h23, if_neg (by omega), if_neg (fun e => h2 e.2)]
    · rw [if_neg (by omega)]
      refine ⟨0, rfl, ?_⟩
      rcases hu with ⟨h1, h2⟩ | ⟨h1, h2, h3, h4⟩
      · rw [List.drop_eq_nil_of_le (by omega)]; rfl
      · obtain rfl : x = fi := by omega
        have := close_at _ _ _ h4
        rw [Nat.sub_self] at this
        rw [drop_e h3] at this ⊢
        have h5 : l.getD x 0 = 23 := this.1
        rw [h5, h1]
        rfl

theorem pStrong_eq (N : Nat) (l : List Int) (iso : Bool) (x fi : Nat) (hl : l.length ≤ 400000000) (hto : fi ≤ l.length) (hN : l.length < N) (hu : Upto l iso x fi) :
    ∃ r, pStrong N l (matchS l) (x : Int) (fi : Int) = some r ∧ decide (r = 2 ∨ r = 3) = rightw iso 0 (l.drop x) := by
  obtain ⟨r, h1, h2⟩ := strong_loop N l iso fi hl hto N x (by omega) hu
  exact ⟨r, h1, h2⟩

theorem pBase_eq (N : Nat) (l : List Int) (hl : l.length ≤ 100000000) (hN : l.length < N) : pBase N l = some (if rightw false 0 l = true then 1 else 0) := by
  unfold pBase
  obtain ⟨r, h1, h2⟩ := pStrong_eq N l false 0 l.length (by omega) (Nat.le_refl _) hN (.inl ⟨rfl, fun h => by cases h⟩)
  rw [pMatch_eq N l (by omega) hN, Option.bind_some]
  rw [show (0 : Int) = ((0 : Nat) : Int) from rfl, h1, Option.bind_some, pRw_eq, Option.bind_some, h2, List.drop_zero]
  cases rightw false 0 l <;> rfl
end Go.Proofs.Ytapfdafmhiilkaa
