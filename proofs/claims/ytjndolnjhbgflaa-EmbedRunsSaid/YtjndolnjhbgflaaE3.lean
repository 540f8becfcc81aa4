/-
  What a control begins, gone through by a call of its own: as the stack has it.
-/
import Derived.Test.YtjndolnjhbgflaaE2
namespace Go.Proofs.Ytjndolnjhbgflaa
open Go Go.RowKit
set_option linter.unusedVariables false
set_option linter.unusedSectionVars false
set_option linter.unusedSimpArgs false

/-- the rounds of within -/
def LL (N q : Nat) (l : List Int) (base : Int) (e : En) (kind : Int) (held : Bool) (k : Nat) (lv cl : List Int) (i oi oe : Nat) : Option (Ctl (List Int × List Int × Int) (Int × List Int × List Int)) :=
  rWithin_L1 N (rWithin_Q N q) l base e.lev e.ovr kind held k lv cl (i : Int) (oi : Int) (oe : Int)

section
variable {N q : Nat} {l : List Int} {base : Int} {e : En} {kind : Int} {held : Bool} {k : Nat} {lv cl : List Int} {i oi oe : Nat}

theorem wsum (h1 : oi ≤ 900000000) (h2 : oe ≤ 900000000) : IntKind.i64.wrap ((oi : Int) + (oe : Int)) = ((oi + oe : Nat) : Int) := by rw [w64e (by omega) (by omega)]; simp

theorem max0 (x : Nat) (h : x ≤ 900000000) : (if (0 : Int) < (IntKind.i64.wrap ((x : Int) - 1)) then (IntKind.i64.wrap ((x : Int) - 1)) else 0) = ((x - 1 : Nat) : Int) := by
  rw [w64e (by omega) (by omega)]
  split <;> omega

theorem LL_end (hi : ¬ i < l.length) : LL N q l base e kind held (k + 1) lv cl i oi oe = some (Ctl.go (lv, cl, (i : Int))) := by
  unfold LL rWithin_L1
  rw [if_neg (by omega)]

section
variable (hl : l.length ≤ 900000000) (hi : i < l.length) (h1 : lv.length = l.length) (h2 : cl.length = l.length) (b1 : oi ≤ 900000000) (b2 : oe ≤ 900000000)
include hl hi h1 h2 b1 b2

theorem LL_B (hx : l.getD i 0 = 11) (hk : kind = 0) : LL N q l base e kind held (k + 1) lv cl i oi oe = LL N q l base e kind held k (lv.set i base) (cl.set i 11) (i + 1) 0 0 := by
  subst hk
  unfold LL
  conv => lhs; unfold rWithin_L1
  rw [if_pos (by omega)]
  simp only [ixe hi, Option.bind_some, hx, wsum b1 b2, rStands_eq N l _ lv cl i _ _ hi h1 h2, wne i (by omega)]
  split <;> simp

theorem LL_Bret (hx : l.getD i 0 = 11) (hk : kind = 1 ∨ kind = 2) : LL N q l base e kind held (k + 1) lv cl i oi oe = some (Ctl.ret ((i : Int), lv, cl)) := by
  have hk' : kind ≠ 0 := by omega
  unfold LL
  conv => lhs; unfold rWithin_L1
  rw [if_pos (by omega)]
  simp only [ixe hi, Option.bind_some, hx, wsum b1 b2]
  split <;> simp [hk']

theorem LL_Pret (hx : l.getD i 0 = 23) (ho : oi = 0) (hh : held = true) : LL N q l base e kind held (k + 1) lv cl i oi oe = some (Ctl.ret ((i : Int), lv, cl)) := by
  subst ho; subst hh
  unfold LL
  conv => lhs; unfold rWithin_L1
  rw [if_pos (by omega)]
  simp only [ixe hi, Option.bind_some, hx, wsum b1 b2]
  split <;> simp

theorem LL_P (hx : l.getD i 0 = 23) (ho : 0 < oi ∨ held = false) : LL N q l base e kind held (k + 1) lv cl i oi oe = LL N q l base e kind held k (lv.set i e.lev) (cl.set i (if e.ovr = 0 then 23 else e.ovr)) (i + 1) (oi - 1) oe := by
  unfold LL
  conv => lhs; unfold rWithin_L1
  rw [if_pos (by omega)]
  simp only [ixe hi, Option.bind_some, hx, wsum b1 b2, rStands_eq N l _ lv cl i _ _ hi h1 h2, wne i (by omega), max0 oi b1]
  rcases ho with ho | ho
  · have : ¬ ((oi : Nat) : Int) = 0 := by omega
    split <;> simp [this]
  · subst ho
    by_cases hz : ((oi + oe : Nat) : Int) = 0
    · rw [if_pos hz]; simp
    · rw [if_neg hz]; simp

theorem LL_Fret (hx : l.getD i 0 = 19) (ho : oi = 0) (he : oe = 0) (hk : kind = 1) : LL N q l base e kind held (k + 1) lv cl i oi oe = some (Ctl.ret ((i : Int), lv, cl)) := by
  subst ho; subst he; subst hk
  unfold LL
  conv => lhs; unfold rWithin_L1
  rw [if_pos (by omega)]
  simp only [ixe hi, Option.bind_some, hx, wsum b1 b2]
  simp

theorem LL_F (hx : l.getD i 0 = 19) (ho : 0 < oi ∨ 0 < oe ∨ kind ≠ 1) : LL N q l base e kind held (k + 1) lv cl i oi oe = LL N q l base e kind held k lv cl (i + 1) oi (if oi = 0 then oe - 1 else oe) := by
  unfold LL
  conv => lhs; unfold rWithin_L1
  rw [if_pos (by omega)]
  simp only [ixe hi, Option.bind_some, hx, wsum b1 b2, wne i (by omega), max0 oe b2]
  by_cases hz : oi = 0
  · subst hz
    by_cases hy : oe = 0
    · subst hy
      have hk : ¬ kind = 1 := by omega
      simp [hk]
    · have : ¬ ((oe : Nat) : Int) = 0 := by omega
      simp [this, hy]
  · have : ¬ ((oi : Nat) : Int) = 0 := by omega
    have h3 : ¬ (oi : Int) + (oe : Int) = 0 := by omega
    simp [this, h3, hz]

theorem LL_N (hx : l.getD i 0 = 10) : LL N q l base e kind held (k + 1) lv cl i oi oe = LL N q l base e kind held k lv cl (i + 1) oi oe := by
  unfold LL
  conv => lhs; unfold rWithin_L1
  rw [if_pos (by omega)]
  simp only [ixe hi, Option.bind_some, hx, wsum b1 b2, wne i (by omega), rInit_eq, show isInit 10 = false from rfl]
  split <;> simp

theorem LL_O (c : Int) (hx : l.getD i 0 = c) (n11 : c ≠ 11) (n23 : c ≠ 23) (nr : isRem c = false) (ni : isInit c = false) : LL N q l base e kind held (k + 1) lv cl i oi oe = LL N q l base e kind held k (lv.set i e.lev) (cl.set i (if e.ovr = 0 then c else e.ovr)) (i + 1) oi oe := by
  have hr : ¬ (c = 15 ∨ c = 16 ∨ c = 17 ∨ c = 18 ∨ c = 19 ∨ c = 10) := fun h => by rw [(isRem_iff c).2 h] at nr; cases nr
  have m1 : ¬ c = 15 := by omega
  have m2 : ¬ c = 16 := by omega
  have m3 : ¬ c = 17 := by omega
  have m4 : ¬ c = 18 := by omega
  have m5 : ¬ c = 19 := by omega
  have m6 : ¬ c = 10 := by omega
  unfold LL
  conv => lhs; unfold rWithin_L1
  rw [if_pos (by omega)]
  simp only [ixe hi, Option.bind_some, hx, wsum b1 b2, wne i (by omega), rInit_eq, ni, rStands_eq N l _ lv cl i _ _ hi h1 h2]
  split <;> simp [m1, m2, m3, m4, m5, m6, n11, n23]

/-- where it goes on behind what an initiator began -/
def goInit (N q : Nat) (l : List Int) (base : Int) (e : En) (kind : Int) (held : Bool) (k : Nat) (r : Int × List Int × List Int) : Option (Ctl (List Int × List Int × Int) (Int × List Int × List Int)) :=
  if r.1 < ((l.length : Nat) : Int) ∧ ix l r.1 = some 23 then ((rStands N l base r.2.1 r.2.2 r.1 e.lev e.ovr).bind fun (a, b) => rWithin_L1 N (rWithin_Q N q) l base e.lev e.ovr kind held k a b (IntKind.i64.wrap (r.1 + 1)) 0 0)
  else rWithin_L1 N (rWithin_Q N q) l base e.lev e.ovr kind held k r.2.1 r.2.2 r.1 0 0

theorem LL_I (hN : l.length < N) (hlev : 0 ≤ e.lev ∧ e.lev ≤ 125) (c : Int) (hx : l.getD i 0 = c) (hc : isInit c = true) : LL N q l base e kind held (k + 1) lv cl i oi oe =
    if oi = 0 ∧ oe = 0 ∧ nextL e.lev (c == 21 || (c == 22 && rightw true 0 (l.drop (i + 1)))) ≤ 125 then
      ((rWithin_Q N q l base (lv.set i e.lev) (cl.set i (if e.ovr = 0 then c else e.ovr)) ((i + 1 : Nat) : Int) (nextL e.lev (c == 21 || (c == 22 && rightw true 0 (l.drop (i + 1))))) 0 2 true).bind fun (x, a, b) =>
        ((((if x < ((l.length : Nat) : Int) then ((ix l x).bind fun y => (if y = 23 then some (true) else some (false))) else some (false)) : Option (Bool)).bind fun z => (match z with | true => ((rStands N l base a b x e.lev e.ovr).bind fun (a2, b2) => rWithin_L1 N (rWithin_Q N q) l base e.lev e.ovr kind held k a2 b2 (IntKind.i64.wrap (x + 1)) 0 0) | false => rWithin_L1 N (rWithin_Q N q) l base e.lev e.ovr kind held k a b x 0 0))))
    else LL N q l base e kind held k (lv.set i e.lev) (cl.set i (if e.ovr = 0 then c else e.ovr)) (i + 1) (oi + 1) oe := by
  have hi' := hc
  rw [isInit_iff] at hi'
  have m1 : ¬ c = 11 := by omega
  have m2 : ¬ c = 23 := by omega
  have m3 : ¬ c = 19 := by omega
  have hR := rRight_eq N l (i + 1) true hl hN (by omega)
  have hnx : (((if c = 21 then ((rNext N e.lev e.ovr true).bind fun x150 => some (x150)) else (if c = 22 then ((rRight N l (IntKind.i64.wrap ((i : Int) + 1)) true).bind fun b157 => ((rNext N e.lev e.ovr b157).bind fun x163 => some (x163))) else ((rNext N e.lev e.ovr false).bind fun x169 => some (x169)))) : Option (Int))) = some (nextL e.lev (c == 21 || (c == 22 && rightw true 0 (l.drop (i + 1))))) := by
    rw [wne i (by omega), hR]
    simp only [Option.bind_some, rNext_eq N e.lev e.ovr _ hlev]
    rcases hi' with rfl | rfl | rfl <;> simp
  have hSt := rStands_eq N l base lv cl i e.lev e.ovr hi h1 h2
  rw [hx] at hSt
  obtain ⟨C, hC⟩ : ∃ C, C = cl.set i (if e.ovr = 0 then c else e.ovr) := ⟨_, rfl⟩
  rw [← hC] at hSt ⊢
  obtain ⟨nx, hnxe⟩ : ∃ nx, nx = nextL e.lev (c == 21 || (c == 22 && rightw true 0 (l.drop (i + 1)))) := ⟨_, rfl⟩
  rw [← hnxe] at hnx ⊢
  generalize hR : (if oi = 0 ∧ oe = 0 ∧ nx ≤ 125 then _ else _ : Option (Ctl (List Int × List Int × Int) (Int × List Int × List Int))) = RHS
  unfold LL
  unfold rWithin_L1
  rw [if_pos (show (i : Int) < ((l.length : Nat) : Int) by omega)]
  simp only [ixe hi, Option.bind_some, hx, wsum b1 b2, rInit_eq, hc, hSt]
  by_cases hz : oi = 0 ∧ oe = 0
  · obtain ⟨z1, z2⟩ := hz
    rw [if_pos (show ((oi + oe : Nat) : Int) = 0 by omega)]
    simp only [if_neg m1, if_neg m2, if_neg m3, Option.bind_some]
    rw [hnx]
    simp only [Option.bind_some]
    by_cases hn : nx ≤ 125
    · rw [if_pos hn, ← hR, if_pos (show oi = 0 ∧ oe = 0 ∧ nx ≤ 125 from ⟨z1, z2, hn⟩)]
      simp only [Option.bind_some, wne i (by omega)]
      rw [z1, z2]
      rfl
    · rw [if_neg hn, ← hR, if_neg (show ¬ (oi = 0 ∧ oe = 0 ∧ nx ≤ 125) from fun h => hn h.2.2)]
      simp only [Option.bind_some, wne i (by omega), wne oi (by omega)]
      rfl
  · rw [if_neg (show ¬ ((oi + oe : Nat) : Int) = 0 by omega), ← hR, if_neg (show ¬ (oi = 0 ∧ oe = 0 ∧ nx ≤ 125) from fun h => hz ⟨h.1, h.2.1⟩)]
    simp only [if_neg m1, if_neg m2, if_neg m3, Option.bind_some]
    rw [hnx]
    simp only [Option.bind_some, wne i (by omega), wne oi (by omega)]
    rfl

theorem LL_E (hlev : 0 ≤ e.lev ∧ e.lev ≤ 125) (c : Int) (hx : l.getD i 0 = c) (hc : isEmb c = true) : LL N q l base e kind held (k + 1) lv cl i oi oe =
    if oi = 0 ∧ oe = 0 ∧ nextL e.lev (c == 16 || c == 18) ≤ 125 then
      ((rWithin_Q N q l base lv cl ((i + 1 : Nat) : Int) (nextL e.lev (c == 16 || c == 18)) (ovrOf c) 1 held).bind fun (x, a, b) =>
        (if x < ((l.length : Nat) : Int) then ((ix l x).bind fun y => (if y = 19 then rWithin_L1 N (rWithin_Q N q) l base e.lev e.ovr kind held k a b (IntKind.i64.wrap (x + 1)) 0 0 else rWithin_L1 N (rWithin_Q N q) l base e.lev e.ovr kind held k a b x 0 0)) else rWithin_L1 N (rWithin_Q N q) l base e.lev e.ovr kind held k a b x 0 0))
    else LL N q l base e kind held k lv cl (i + 1) oi (if oi = 0 then oe + 1 else oe) := by
  have hi' := hc
  rw [isEmb_iff] at hi'
  have m1 : ¬ c = 11 := by omega
  have m2 : ¬ c = 23 := by omega
  have m3 : ¬ c = 19 := by omega
  have m4 : isInit c = false := by rw [Bool.eq_false_iff]; intro h; rw [isInit_iff] at h; omega
  have hnx : (((if c = 16 then ((rNext N e.lev e.ovr true).bind fun x250 => some (x250)) else ((rNext N e.lev e.ovr (decide (c = 18))).bind fun x256 => some (x256))) : Option (Int))) = some (nextL e.lev (c == 16 || c == 18)) := by
    simp only [Option.bind_some, rNext_eq N e.lev e.ovr _ hlev]
    rcases hi' with rfl | rfl | rfl | rfl <;> simp
  have hem : (if c = 15 then some (true) else (if c = 16 then some (true) else (if c = 17 then some (true) else (if c = 18 then some (true) else some (false))))) = (some true : Option Bool) := by
    rcases hi' with rfl | rfl | rfl | rfl <;> simp
  obtain ⟨nx, hnxe⟩ : ∃ nx, nx = nextL e.lev (c == 16 || c == 18) := ⟨_, rfl⟩
  rw [← hnxe] at hnx ⊢
  generalize hR : (if oi = 0 ∧ oe = 0 ∧ nx ≤ 125 then _ else _ : Option (Ctl (List Int × List Int × Int) (Int × List Int × List Int))) = RHS
  unfold LL
  unfold rWithin_L1
  rw [if_pos (show (i : Int) < ((l.length : Nat) : Int) by omega)]
  simp only [ixe hi, Option.bind_some, hx, wsum b1 b2, rInit_eq, m4]
  by_cases hz : oi = 0 ∧ oe = 0
  · obtain ⟨z1, z2⟩ := hz
    rw [if_pos (show ((oi + oe : Nat) : Int) = 0 by omega)]
    simp only [if_neg m1, if_neg m2, if_neg m3, Option.bind_some]
    rw [hem]
    simp only [Option.bind_some]
    rw [hnx]
    simp only [Option.bind_some]
    by_cases hn : nx ≤ 125
    · rw [if_pos hn, ← hR, if_pos (show oi = 0 ∧ oe = 0 ∧ nx ≤ 125 from ⟨z1, z2, hn⟩)]
      simp only [Option.bind_some, rOvr_eq, wne i (by omega)]
      rw [z1, z2]
      rfl
    · rw [if_neg hn, ← hR, if_neg (show ¬ (oi = 0 ∧ oe = 0 ∧ nx ≤ 125) from fun h => hn h.2.2)]
      simp only [Option.bind_some, wne i (by omega), wne oe (by omega)]
      rw [if_pos (show ((oi : Nat) : Int) = 0 by omega), if_pos z1]
      rfl
  · rw [if_neg (show ¬ ((oi + oe : Nat) : Int) = 0 by omega), ← hR, if_neg (show ¬ (oi = 0 ∧ oe = 0 ∧ nx ≤ 125) from fun h => hz ⟨h.1, h.2.1⟩)]
    simp only [if_neg m1, if_neg m2, if_neg m3, Option.bind_some]
    rw [hem]
    simp only [Option.bind_some]
    rw [hnx]
    simp only [Option.bind_some, wne i (by omega), wne oe (by omega)]
    by_cases ho : oi = 0
    · rw [if_pos (show ((oi : Nat) : Int) = 0 by omega), if_pos ho]; rfl
    · rw [if_neg (show ¬ ((oi : Nat) : Int) = 0 by omega), if_neg ho]; rfl
end
end
end Go.Proofs.Ytjndolnjhbgflaa
