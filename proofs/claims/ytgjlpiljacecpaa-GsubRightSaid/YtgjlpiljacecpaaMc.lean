/-
  Lists: coverages and classes.
-/
import Derived.Test.YtgjlpiljacecpaaMb
namespace Go.Proofs.Ytgjlpiljacecpaa
open Go Go.RowKit
def listedI : List Int → Nat → List (Int × Int × Int)
  | [], _ => []
  | x :: r, s => (x, x, (s : Int)) :: listedI r (s + 1)
theorem drop_cons {l : List Int} {x : Nat} (h : x < l.length) : l.drop x = l.getD x 0 :: l.drop (x + 1) := by
  rw [List.getD_eq_getElem?_getD, List.getElem?_eq_getElem h]
  exact List.drop_eq_getElem_cons h
theorem listed_loop (N : Nat) (l : List Int) (hU : U16 l) (hl : l.length ≤ 1000000000) : ∀ (k x : Nat), x ≤ l.length → l.length - x < k → cListed1_L1 N l k (x : Int) = some (listedI (l.drop x) x) := by
  intro k
  induction k with
  | zero => intro x _ h; omega
  | succ k ih =>
    intro x hx hk
    rw [cListed1_L1]
    by_cases hlt : x < l.length
    · have h1 := hU.at x
      rw [if_pos (by omega), ix_nat hlt]
      simp only [Option.bind_some]
      rw [w64 (by omega) (by omega), w64 (by omega) (by omega), show ((x : Int) + 1) = ((x + 1 : Nat) : Int) by omega, ih (x + 1) (by omega) (by omega), drop_cons hlt]
      rfl
    · rw [if_neg (by omega), List.drop_of_length_le (by omega)]
      rfl
theorem listed_eq (N : Nat) (l : List Int) (hU : U16 l) (hl : l.length ≤ 1000000000) (hN : l.length < N) : cListed1 N l = some (listedI l 0) := by
  unfold cListed1
  have := listed_loop N l hU hl N 0 (by omega) (by omega)
  simpa using this
def rangedI : List Int → List (Int × Int × Int)
  | a :: b :: c :: r => (a, b, c) :: rangedI r
  | _ => []
theorem ranged_loop (N : Nat) (l : List Int) (hU : U16 l) (hl : l.length ≤ 1000000000) : ∀ (k x : Nat), l.length - x < k → cRanged1_L1 N l k ((x : Int) + 2) = some (rangedI (l.drop x)) := by
  intro k
  induction k with
  | zero => intro x h; omega
  | succ k ih =>
    intro x hk
    rw [cRanged1_L1]
    simp only [show ∀ y, iw y = IntKind.i64.wrap y from fun _ => rfl]
    by_cases hlt : x + 2 < l.length
    · have h1 := hU.at x
      have h2 := hU.at (x + 1)
      have h3 := hU.at (x + 2)
      rw [if_pos (by omega), w64 (x := (x : Int) + 2 - 2) (by omega) (by omega), w64 (x := (x : Int) + 2 - 1) (by omega) (by omega), show ((x : Int) + 2 - 2) = ((x : Nat) : Int) by omega, show ((x : Int) + 2 - 1) = ((x + 1 : Nat) : Int) by omega, show ((x : Int) + 2) = ((x + 2 : Nat) : Int) by omega,
        ix_nat (by omega), ix_nat (by omega), ix_nat hlt]
      simp only [Option.bind_some]
      rw [w64 (by omega) (by omega), w64 (by omega) (by omega), w64 (by omega) (by omega), w64 (by omega) (by omega), show (((x + 2 : Nat) : Int) + 3) = ((x + 3 : Nat) : Int) + 2 by omega, ih (x + 3) (by omega),
        drop_cons (by omega : x < l.length), drop_cons (by omega : x + 1 < l.length), drop_cons hlt]
      rfl
    · rw [if_neg (by omega)]
      have : (l.drop x).length ≤ 2 := by rw [List.length_drop]; omega
      match h : l.drop x, this with
      | [], _ => rfl
      | [_], _ => rfl
      | [_, _], _ => rfl
      | _ :: _ :: _ :: _, h2 => exfalso; simp only [List.length_cons] at h2; omega
theorem ranged_eq (N : Nat) (l : List Int) (hU : U16 l) (hl : l.length ≤ 1000000000) (hN : l.length < N) : cRanged1 N l = some (rangedI l) := by
  unfold cRanged1
  exact ranged_loop N l hU hl N 0 (by omega)
def upI (a z : Int) : List Int := (List.range (z + 1 - a).toNat).map fun i => a + (i : Nat)
theorem upI_len (a z : Int) : (upI a z).length = (z + 1 - a).toNat := by simp [upI]
theorem upI_step {a z : Int} (h : a ≤ z) : upI a z = a :: upI (a + 1) z := by
  unfold upI
  rw [show (z + 1 - a).toNat = (z + 1 - (a + 1)).toNat + 1 by omega, List.range_succ_eq_map]
  simp only [List.map_cons, List.map_map, List.cons.injEq]
  refine ⟨by simp, List.map_congr_left fun i _ => ?_⟩
  simp only [Function.comp]
  omega
theorem upI_nil {a z : Int} (h : z < a) : upI a z = [] := by unfold upI; rw [show (z + 1 - a).toNat = 0 by omega]; rfl
theorem cov_loop (N : Nat) (z : Int) (hz : z ≤ 65535) : ∀ (k : Nat) (l : List Int) (a : Int), 0 ≤ a → (z + 1 - a).toNat < k → l.length + (z + 1 - a).toNat ≤ 1000000000 → cCov_L2 N z k l a = some (l ++ upI a z) := by
  intro k
  induction k with
  | zero => intro l a _ h; omega
  | succ k ih =>
    intro l a h0 hk hl
    rw [cCov_L2]
    by_cases h : a ≤ z
    · rw [if_pos h, w16 h0 (by omega), apx_eq (by simp; omega)]
      simp only [Option.bind_some]
      rw [w64 (by omega) (by omega), ih (l ++ [a]) (a + 1) (by omega) (by omega) (by simp; omega), upI_step h]
      simp
    · rw [if_neg h, upI_nil (by omega)]
      simp
def covI (g : Int) : List (Int × Int × Int) → List Int → Int → Option (List Int)
  | [], l, _ => some l
  | (a, z, k) :: r, l, e => if e < a ∧ a ≤ z ∧ z < g ∧ k = (l.length : Int) then covI g r (l ++ upI a z) z else none
theorem fits_eq (N : Nat) (a z k e g : Int) : cFits N a z k e g = some (decide (e < a ∧ a ≤ z ∧ z < g)) := by
  unfold cFits
  by_cases h1 : e < a
  · by_cases h2 : a ≤ z
    · rw [if_pos (by omega), if_pos h2]; simp [h1, h2]
    · rw [if_pos (by omega), if_neg h2]; simp [h2]
  · rw [if_neg (by omega)]; simp [h1]
theorem cov_rounds (N : Nat) (hN : 65537 < N) (g : Int) : ∀ (its : List (Int × Int × Int)) (l : List Int) (e : Int), (∀ x ∈ its, x.2.1 ≤ 65535) → -1 ≤ e → e ≤ 65535 → (l.length : Int) ≤ e + 1 →
    ∃ c, cCov_X1 N g its l e = some c ∧ (match c with | Ctl.go (l', _) => covI g its l e = some l' ∧ l'.length ≤ 65536 | Ctl.ret _ => covI g its l e = none) := by
  intro its
  induction its with
  | nil => intro l e _ h0 h1 hl; exact ⟨_, rfl, rfl, by omega⟩
  | cons x r ih =>
    intro l e hw h0 h1 hl
    obtain ⟨a, z, k⟩ := x
    have hz : z ≤ 65535 := hw (a, z, k) (by simp)
    rw [cCov_X1, fits_eq]
    by_cases h : e < a ∧ a ≤ z ∧ z < g
    · rw [decide_eq_true h]
      simp only [Option.bind_some]
      by_cases hk : k = (l.length : Int)
      · rw [if_neg (fun hh => hh hk)]
        simp only [Option.bind_some]
        rw [cov_loop N z hz N l a (by omega) (by omega) (by omega)]
        simp only [Option.bind_some]
        have e2 : covI g ((a, z, k) :: r) l e = covI g r (l ++ upI a z) z := by rw [covI, if_pos ⟨h.1, h.2.1, h.2.2, hk⟩]
        rw [e2]
        exact ih (l ++ upI a z) z (fun x hx => hw x (List.mem_cons_of_mem _ hx)) (by omega) hz (by rw [List.length_append, upI_len]; omega)
      · rw [if_pos hk]
        refine ⟨_, rfl, ?_⟩
        show covI g ((a, z, k) :: r) l e = none
        rw [covI, if_neg (fun hh => hk hh.2.2.2)]
    · rw [decide_eq_false h]
      refine ⟨_, rfl, ?_⟩
      show covI g ((a, z, k) :: r) l e = none
      rw [covI, if_neg (fun hh => h ⟨hh.1, hh.2.1, hh.2.2.1⟩)]
def covR (g : Int) (its : Option (List (Int × Int × Int))) (ok : Bool) : List Int × Int :=
  if ok then match its with
    | none => ([], 50)
    | some its => match covI g its [] (-1) with
      | some l => if 1 ≤ l.length ∧ l.length ≤ 65535 then (l, 0) else ([], 50)
      | none => ([], 50)
  else ([], 50)
theorem ranged_in {l : List Int} (hU : U16 l) : ∀ x ∈ rangedI l, (0 ≤ x.1 ∧ x.1 ≤ 65535) ∧ (0 ≤ x.2.1 ∧ x.2.1 ≤ 65535) ∧ 0 ≤ x.2.2 ∧ x.2.2 ≤ 65535 := by
  fun_induction rangedI l with
  | case1 a b c r ih =>
    intro x hx
    rcases List.mem_cons.1 hx with rfl | hx
    · exact ⟨hU a (by simp), hU b (by simp), hU c (by simp)⟩
    · exact ih (fun y hy => hU y (by simp [hy])) x hx
  | case2 => intro x hx; cases hx
theorem listed_in : ∀ {l : List Int} {s : Nat}, U16 l → ∀ x ∈ listedI l s, x.1 = x.2.1 ∧ 0 ≤ x.1 ∧ x.1 ≤ 65535
  | [], _, _, _, h => by cases h
  | a :: r, s, hU, x, h => by
    rcases List.mem_cons.1 h with rfl | h
    · exact ⟨rfl, hU a (by simp)⟩
    · exact listed_in (fun y hy => hU y (by simp [hy])) x h
def covIts (b : List Int) (p : Int) : Option (List (Int × Int × Int)) × Bool :=
  if rdv b p = 1 then (some (listedI (if hasB b (p + 4) (rdv b (p + 2)) 2 then wds b (p + 4) (rdv b (p + 2)).toNat else []) 0), (hasB b (p + 2) 1 2 && hasB b p 1 2) && hasB b (p + 4) (rdv b (p + 2)) 2)
  else if rdv b p = 2 then (some (rangedI (if hasB b (p + 4) (3 * rdv b (p + 2)) 2 then wds b (p + 4) (3 * rdv b (p + 2)).toNat else [])), (hasB b (p + 2) 1 2 && hasB b p 1 2) && hasB b (p + 4) (3 * rdv b (p + 2)) 2)
  else (none, false)
theorem u16_or {b : List Int} (hU : U8 b) (c : Bool) (p : Int) (n : Nat) : U16 (if c then wds b p n else []) := by
  cases c
  · intro x hx; cases hx
  · exact wds_u16 hU p n
theorem len_or (c : Bool) (b : List Int) (p : Int) (n : Nat) : (if c then wds b p n else []).length ≤ n := by
  cases c
  · exact Nat.zero_le _
  · exact Nat.le_of_eq (wds_len b p n)
theorem covI_eq (N : Nat) (hN : 200000 ≤ N) (b : List Int) (p : Int) (hU : U8 b) (hb : b.length ≤ 1000000000) (h0 : 0 ≤ p) (h1 : p ≤ 1000000000) : ∃ f, cCovI N b false p = some ((covIts b p).1, (covIts b p).2, f) ∧ ((covIts b p).2 = true → f = false) := by
  have hn := rdv_in hU (p + 2)
  unfold cCovI covIts
  rw [w64 (x := p + 2) (by omega) (by omega), bword_eq N b false _ hU hb]
  simp only [Option.bind_some]
  rw [bword_eq N b _ _ hU hb]
  simp only [Option.bind_some]
  by_cases e1 : rdv b p = 1
  · rw [if_pos e1, if_pos e1, w64 (x := p + 4) (by omega) (by omega), w64 (x := rdv b (p + 2)) (by omega) (by omega), bwords_eq N b _ _ _ hU hb (by omega)]
    simp only [Option.bind_some, bBad]
    have hlen := len_or (hasB b (p + 4) (rdv b (p + 2)) 2) b (p + 4) (rdv b (p + 2)).toNat
    rw [listed_eq N _ (u16_or hU _ _ _) (by omega) (by omega)]
    generalize hasB b (p + 4) (rdv b (p + 2)) 2 = z
    generalize hasB b (p + 2) 1 2 = x
    generalize hasB b p 1 2 = y
    exact ⟨_, congrArg some (Prod.ext rfl (Prod.ext (by cases x <;> cases y <;> cases z <;> rfl) rfl)), fun h => by cases x <;> cases y <;> cases z <;> first | rfl | cases h⟩
  · rw [if_neg e1, if_neg e1]
    by_cases e2 : rdv b p = 2
    · rw [if_pos e2, if_pos e2, w64 (x := p + 4) (by omega) (by omega), w64 (x := rdv b (p + 2)) (by omega) (by omega), w64 (x := 3 * rdv b (p + 2)) (by omega) (by omega), bwords_eq N b _ _ _ hU hb (by omega)]
      simp only [Option.bind_some, bBad]
      have hlen := len_or (hasB b (p + 4) (3 * rdv b (p + 2)) 2) b (p + 4) (3 * rdv b (p + 2)).toNat
      rw [ranged_eq N _ (u16_or hU _ _ _) (by omega) (by omega)]
      generalize hasB b (p + 4) (3 * rdv b (p + 2)) 2 = z
      generalize hasB b (p + 2) 1 2 = x
      generalize hasB b p 1 2 = y
      exact ⟨_, congrArg some (Prod.ext rfl (Prod.ext (by cases x <;> cases y <;> cases z <;> rfl) rfl)), fun h => by cases x <;> cases y <;> cases z <;> first | rfl | cases h⟩
    · rw [if_neg e2, if_neg e2]
      exact ⟨_, rfl, fun h => by cases h⟩
theorem covIts_in {b : List Int} (hU : U8 b) (p : Int) {its : List (Int × Int × Int)} (h : (covIts b p).1 = some its) : ∀ x ∈ its, x.2.1 ≤ 65535 := by
  unfold covIts at h
  split at h
  · injection h with h; subst h
    intro x hx
    have := listed_in (u16_or hU _ _ _) x hx
    omega
  · split at h
    · injection h with h; subst h
      intro x hx
      exact (ranged_in (u16_or hU _ _ _) x hx).2.1.2
    · cases h
theorem cov_eq (N : Nat) (hN : 200000 ≤ N) (b : List Int) (p g : Int) (hU : U8 b) (hb : b.length ≤ 1000000000) (h0 : 0 ≤ p) (h1 : p ≤ 1000000000) : ∃ f, cCov N b false p g = some ((covR g (covIts b p).1 (covIts b p).2).1, (covR g (covIts b p).1 (covIts b p).2).2, f) ∧ ((covR g (covIts b p).1 (covIts b p).2).2 = 0 → f = false) := by
  obtain ⟨f, hf, hff⟩ := covI_eq N hN b p hU hb h0 h1
  unfold cCov covR
  rw [hf]
  simp only [Option.bind_some]
  by_cases hok : (covIts b p).2 = true
  · have hf0 := hff hok
    rw [hok]
    cases hi : (covIts b p).1 with
    | none =>
      unfold covIts at hi hok
      split at hi
      · cases hi
      · rename_i h1
        rw [if_neg h1] at hok
        split at hi
        · cases hi
        · rename_i h2
          rw [if_neg h2] at hok
          cases hok
    | some its =>
      obtain ⟨c, hc, hr⟩ := cov_rounds N (by omega) g its [] (-1) (covIts_in hU p hi) (by omega) (by omega) (by simp)
      simp only [Option.bind_some]
      rw [hc]
      cases c with
      | go s =>
        obtain ⟨l', e⟩ := s
        rw [hr.1]
        simp only [Option.bind_some, cCount, if_true]
        by_cases hl : 1 ≤ l'.length
        · rw [if_pos (by omega)]
          simp only [Option.bind_some]
          by_cases hl2 : l'.length ≤ 65535
          · rw [decide_eq_true (by omega), if_pos ⟨hl, hl2⟩]
            exact ⟨_, rfl, fun _ => hf0⟩
          · rw [decide_eq_false (by omega), if_neg (fun h => hl2 h.2)]
            exact ⟨_, rfl, fun _ => hf0⟩
        · rw [if_neg (by omega), if_neg (fun h => hl h.1)]
          exact ⟨_, rfl, fun _ => hf0⟩
      | ret s =>
        rw [hr]
        exact ⟨_, rfl, fun _ => hf0⟩
  · have hok : (covIts b p).2 = false := by simpa using hok
    rw [hok]
    exact ⟨_, rfl, fun h => by simp at h⟩
end Go.Proofs.Ytgjlpiljacecpaa
