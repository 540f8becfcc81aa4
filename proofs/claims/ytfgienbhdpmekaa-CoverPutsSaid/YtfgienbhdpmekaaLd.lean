/-
  Lists: classes; what is read at a place.
-/
import Derived.Test.YtfgienbhdpmekaaLc
namespace Go.Proofs.Ytfgienbhdpmekaa
open Go Go.RowKit

/-- a list with one number from a place to another -/
def setI (l : List Int) (a z c : Int) : List Int := (List.range l.length).map fun (i : Nat) => if a ≤ (i : Int) ∧ (i : Int) ≤ z then c else l.getD i 0

theorem setI_len (l : List Int) (a z c : Int) : (setI l a z c).length = l.length := by simp [setI]

theorem map_range_getD (l : List Int) : (List.range l.length).map (fun i => l.getD i 0) = l := by
  apply List.ext_getElem
  · simp
  · intro i h1 h2
    simp [List.getD_eq_getElem?_getD, List.getElem?_eq_getElem h2]

theorem setI_nil {l : List Int} {a z : Int} (c : Int) (h : z < a) : setI l a z c = l := by
  unfold setI
  refine Eq.trans (List.map_congr_left fun i _ => ?_) (map_range_getD l)
  rw [if_neg (by omega)]

theorem setI_step {l : List Int} {a z : Int} (c : Int) (h0 : 0 ≤ a) (h : a ≤ z) (_hz : z < (l.length : Int)) : setI (l.set a.toNat c) (a + 1) z c = setI l a z c := by
  unfold setI
  rw [List.length_set]
  refine List.map_congr_left fun i hi => ?_
  have hi := List.mem_range.1 hi
  by_cases h1 : a + 1 ≤ (i : Int) ∧ (i : Int) ≤ z
  · rw [if_pos h1, if_pos (by omega)]
  · rw [if_neg h1]
    by_cases h2 : (i : Int) = a
    · rw [if_pos (by omega), show a.toNat = i by omega, List.getD_eq_getElem?_getD, List.getElem?_set_self (by omega)]; rfl
    · rw [if_neg (by omega), List.getD_eq_getElem?_getD, List.getD_eq_getElem?_getD, List.getElem?_set_ne (by omega)]

theorem cls_loop (N : Nat) (z c : Int) (hc : 0 ≤ c ∧ c ≤ 255) (hz : z ≤ 65535) : ∀ (k : Nat) (l : List Int) (a : Int), 0 ≤ a → (z + 1 - a).toNat < k → z < (l.length : Int) → cCls_L2 N z c k l a = some (setI l a z c) := by
  intro k
  induction k with
  | zero => intro l a _ h; omega
  | succ k ih =>
    intro l a h0 hk hl
    rw [cCls_L2]
    by_cases h : a ≤ z
    · rw [if_pos h, ix_eq h0 (by omega), w8 hc.1 hc.2, setx_eq h0 (by omega)]
      simp only [Option.bind_some]
      rw [w64 (by omega) (by omega), ih _ (a + 1) (by omega) (by omega) (by rw [List.length_set]; exact hl), setI_step c h0 h hl]
    · rw [if_neg h, setI_nil c (by omega)]

/-- the classes of ranges, if they rise, and each class is one -/
def clsI (g : Int) : List (Int × Int × Int) → List Int → Int → Option (List Int)
  | [], l, _ => some l
  | (a, z, c) :: r, l, e => if e < a ∧ a ≤ z ∧ z < g ∧ c ≤ 4 then clsI g r (setI l a z c) z else none

theorem cls_rounds (N : Nat) (hN : 65537 < N) (g : Int) : ∀ (its : List (Int × Int × Int)) (l : List Int) (e : Int), (∀ x ∈ its, 0 ≤ x.2.2 ∧ x.2.1 ≤ 65536 * 2) → g ≤ 65536 → -1 ≤ e → (l.length : Int) = g →
    ∃ c, cCls_X1 N g its e l = some c ∧ (match c with | Ctl.go (_, l') => clsI g its l e = some l' | Ctl.ret _ => clsI g its l e = none) := by
  intro its
  induction its with
  | nil => intro l e _ hg h0 hl; exact ⟨_, rfl, rfl⟩
  | cons x r ih =>
    intro l e hw hg h0 hl
    obtain ⟨a, z, c⟩ := x
    have hz : 0 ≤ c ∧ z ≤ 65536 * 2 := hw (a, z, c) (by simp)
    rw [cCls_X1, fits_eq]
    by_cases h : e < a ∧ a ≤ z ∧ z < g
    · rw [decide_eq_true h]
      simp only [Option.bind_some]
      by_cases hk : c ≤ 4
      · rw [if_neg (by omega)]
        simp only [Option.bind_some]
        rw [cls_loop N z c (by omega) (by omega) N l a (by omega) (by omega) (by omega)]
        simp only [Option.bind_some]
        have e2 : clsI g ((a, z, c) :: r) l e = clsI g r (setI l a z c) z := by rw [clsI, if_pos ⟨h.1, h.2.1, h.2.2, hk⟩]
        rw [e2]
        exact ih (setI l a z c) z (fun x hx => hw x (List.mem_cons_of_mem _ hx)) hg (by omega) (by rw [setI_len]; exact hl)
      · rw [if_pos (by omega)]
        refine ⟨_, rfl, ?_⟩
        show clsI g ((a, z, c) :: r) l e = none
        rw [clsI, if_neg (fun hh => hk hh.2.2.2)]
    · rw [decide_eq_false h]
      refine ⟨_, rfl, ?_⟩
      show clsI g ((a, z, c) :: r) l e = none
      rw [clsI, if_neg (fun hh => h ⟨hh.1, hh.2.1, hh.2.2.1⟩)]

/-- classes' intervals as they are read -/
def clsIts (b : List Int) (p g : Int) : Option (List (Int × Int × Int)) × Bool :=
  if rdv b p = 1 then
    (some (classedI (if hasB b (p + 6) (rdv b (p + 4)) 2 then wds b (p + 6) (rdv b (p + 4)).toNat else []) (rdv b (p + 2))), (hasB b p 1 2 && hasB b (p + 2) 1 2 && hasB b (p + 4) 1 2 && hasB b (p + 6) (rdv b (p + 4)) 2) && decide (rdv b (p + 2) + rdv b (p + 4) ≤ g))
  else if rdv b p = 2 then
    (some (rangedI (if hasB b (p + 4) (3 * rdv b (p + 2)) 2 then wds b (p + 4) (3 * rdv b (p + 2)).toNat else [])), hasB b p 1 2 && hasB b (p + 2) 1 2 && hasB b (p + 4) (3 * rdv b (p + 2)) 2)
  else (none, false)

theorem clsIts_eq (N : Nat) (hN : 200000 ≤ N) (b : List Int) (p g : Int) (hU : U8 b) (hb : b.length ≤ 1000000000) (h0 : 0 ≤ p) (h1 : p ≤ 1000000000) : ∃ f, cClsI N b false p g = some ((clsIts b p g).1, (clsIts b p g).2, f) := by
  have hn := rdv_in hU (p + 2)
  have hm := rdv_in hU (p + 4)
  unfold cClsI clsIts
  rw [word_eq N b false _ hU hb]
  simp only [Option.bind_some]
  by_cases e1 : rdv b p = 1
  · rw [if_pos e1, if_pos e1, w64 (x := p + 2) (by omega) (by omega), word_eq N b _ _ hU hb]
    simp only [Option.bind_some]
    rw [w64 (x := p + 4) (by omega) (by omega), word_eq N b _ _ hU hb]
    simp only [Option.bind_some]
    rw [w64 (x := p + 6) (by omega) (by omega), w64 (x := rdv b (p + 4)) (by omega) (by omega), w64 (x := rdv b (p + 2)) (by omega) (by omega), w64 (x := rdv b (p + 2) + rdv b (p + 4)) (by omega) (by omega), words_eq N b _ _ _ hU hb (by omega)]
    simp only [Option.bind_some, bBad]
    have hlen := len_or (hasB b (p + 6) (rdv b (p + 4)) 2) b (p + 6) (rdv b (p + 4)).toNat
    rw [classed_eq N _ _ hn (u16_or hU _ _ _) (by omega) (by omega)]
    simp only [Option.bind_some, Bool.false_or]
    cases hx : (!hasB b p 1 2 || !hasB b (p + 2) 1 2 || !hasB b (p + 4) 1 2 || !hasB b (p + 6) (rdv b (p + 4)) 2) with
    | true =>
      refine ⟨true, ?_⟩
      have : (hasB b p 1 2 && hasB b (p + 2) 1 2 && hasB b (p + 4) 1 2 && hasB b (p + 6) (rdv b (p + 4)) 2) = false := by
        revert hx; cases hasB b p 1 2 <;> cases hasB b (p + 2) 1 2 <;> cases hasB b (p + 4) 1 2 <;> cases hasB b (p + 6) (rdv b (p + 4)) 2 <;> simp
      rw [this]
      rfl
    | false =>
      refine ⟨false, ?_⟩
      have : (hasB b p 1 2 && hasB b (p + 2) 1 2 && hasB b (p + 4) 1 2 && hasB b (p + 6) (rdv b (p + 4)) 2) = true := by
        revert hx; cases hasB b p 1 2 <;> cases hasB b (p + 2) 1 2 <;> cases hasB b (p + 4) 1 2 <;> cases hasB b (p + 6) (rdv b (p + 4)) 2 <;> simp
      rw [this]
      rfl
  · rw [if_neg e1, if_neg e1]
    by_cases e2 : rdv b p = 2
    · rw [if_pos e2, if_pos e2, w64 (x := p + 2) (by omega) (by omega), word_eq N b _ _ hU hb]
      simp only [Option.bind_some]
      rw [w64 (x := p + 4) (by omega) (by omega), w64 (x := rdv b (p + 2)) (by omega) (by omega), w64 (x := 3 * rdv b (p + 2)) (by omega) (by omega), words_eq N b _ _ _ hU hb (by omega)]
      simp only [Option.bind_some, bBad]
      have hlen := len_or (hasB b (p + 4) (3 * rdv b (p + 2)) 2) b (p + 4) (3 * rdv b (p + 2)).toNat
      rw [ranged_eq N _ (u16_or hU _ _ _) (by omega) (by omega)]
      simp
    · rw [if_neg e2, if_neg e2]
      exact ⟨_, rfl⟩

theorem classed_in : ∀ {l : List Int} {s : Int}, U16 l → s + l.length ≤ 65536 * 2 → ∀ x ∈ classedI l s, 0 ≤ x.2.2 ∧ x.2.1 ≤ 65536 * 2
  | [], _, _, _, _, h => by cases h
  | a :: r, s, hU, hs, x, h => by
    simp only [List.length_cons] at hs
    rcases List.mem_cons.1 h with rfl | h
    · exact ⟨(hU a (by simp)).1, by show s ≤ _; omega⟩
    · exact classed_in (fun y hy => hU y (by simp [hy])) (by omega) x h

theorem clsIts_in {b : List Int} (hU : U8 b) (p g : Int) {its : List (Int × Int × Int)} (h : (clsIts b p g).1 = some its) : ∀ x ∈ its, 0 ≤ x.2.2 ∧ x.2.1 ≤ 65536 * 2 := by
  have hn := rdv_in hU (p + 2)
  have hm := rdv_in hU (p + 4)
  unfold clsIts at h
  split at h
  · injection h with h; subst h
    have hlen := len_or (hasB b (p + 6) (rdv b (p + 4)) 2) b (p + 6) (rdv b (p + 4)).toNat
    exact classed_in (u16_or hU _ _ _) (by omega)
  · split at h
    · injection h with h; subst h
      intro x hx
      have := ranged_in (u16_or hU _ _ _) x hx
      omega
    · cases h

/-- what classes are -/
def clsR (g : Int) (its : Option (List (Int × Int × Int))) (ok : Bool) : List Int × Int :=
  if ok ∧ 0 ≤ g ∧ g ≤ 65536 then match its with
    | none => ([], 50)
    | some its => match clsI g its (List.replicate g.toNat 0) (-1) with
      | some l => (l, 0)
      | none => ([], 50)
  else ([], 50)

theorem cls_eq (N : Nat) (hN : 200000 ≤ N) (b : List Int) (p g : Int) (hU : U8 b) (hb : b.length ≤ 1000000000) (h0 : 0 ≤ p) (h1 : p ≤ 1000000000) : ∃ f, cCls N b false p g = some ((clsR g (clsIts b p g).1 (clsIts b p g).2).1, (clsR g (clsIts b p g).1 (clsIts b p g).2).2, f) := by
  obtain ⟨f, hf⟩ := clsIts_eq N hN b p g hU hb h0 h1
  unfold cCls clsR
  rw [hf]
  simp only [Option.bind_some]
  by_cases hok : (clsIts b p g).2 = true
  · rw [hok]
    by_cases hg0 : p ≤ p ∧ 0 ≤ g
    · by_cases hg1 : g ≤ 65536
      · rw [if_neg (by omega), if_neg (by omega), if_pos ⟨rfl, hg0.2, hg1⟩]
        simp only [Option.bind_some]
        rw [mkx_eq hg0.2 (by omega)]
        simp only [Option.bind_some]
        cases hi : (clsIts b p g).1 with
        | none =>
          exfalso
          unfold clsIts at hi hok
          split at hi
          · cases hi
          · rename_i h1
            rw [if_neg h1] at hok
            split at hi
            · cases hi
            · rename_i h2
              rw [if_neg h2] at hok
              cases hok
        | some its =>
          simp only [Option.bind_some]
          obtain ⟨c, hc, hr⟩ := cls_rounds N (by omega) g its (List.replicate g.toNat 0) (-1) (clsIts_in hU p g hi) hg1 (by omega) (by rw [List.length_replicate]; omega)
          rw [hc]
          cases c with
          | go s =>
            obtain ⟨e, l'⟩ := s
            rw [hr]
            exact ⟨_, rfl⟩
          | ret s =>
            rw [hr]
            exact ⟨_, rfl⟩
      · rw [if_neg (by omega), if_pos (by omega), if_neg (fun h => hg1 h.2.2)]
        exact ⟨_, rfl⟩
    · rw [if_pos (by omega), if_neg (fun h => hg0 ⟨by omega, h.2.1⟩)]
      exact ⟨_, rfl⟩
  · have hok : (clsIts b p g).2 = false := by simpa using hok
    rw [hok]
    have e : ¬(false = true ∧ 0 ≤ g ∧ g ≤ 65536) := fun h => by cases h.1
    simp only [e, if_false]
    exact ⟨_, rfl⟩

/-! ### from a place on -/
theorem has_drop (b : List Int) (p : Nat) (hp : p ≤ b.length) (k n s : Int) (h0 : 0 ≤ k) : hasB b ((p : Int) + k) n s = hasB (b.drop p) k n s := by
  unfold hasB
  rw [List.length_drop]
  congr 1
  apply propext
  constructor
  · rintro ⟨_, h2, h3⟩; exact ⟨h0, h2, by omega⟩
  · rintro ⟨_, h2, h3⟩; exact ⟨by omega, h2, by omega⟩

theorem wdv_drop (b : List Int) (p : Nat) (k : Int) (h0 : 0 ≤ k) : wdv b ((p : Int) + k) = wdv (b.drop p) k := by
  unfold wdv
  rw [show ((p : Int) + k).toNat = p + k.toNat by omega]
  simp only [List.getD_eq_getElem?_getD, List.getElem?_drop]
  rfl

theorem rdv_drop (b : List Int) (p : Nat) (hp : p ≤ b.length) (k : Int) (h0 : 0 ≤ k) : rdv b ((p : Int) + k) = rdv (b.drop p) k := by
  unfold rdv
  rw [has_drop b p hp k _ _ h0, wdv_drop b p k h0]

theorem wds_drop (b : List Int) (p : Nat) (k : Int) (n : Nat) (h0 : 0 ≤ k) : wds b ((p : Int) + k) n = wds (b.drop p) k n := by
  unfold wds
  refine List.map_congr_left fun i _ => ?_
  rw [show (p : Int) + k + 2 * (i : Int) = (p : Int) + (k + 2 * (i : Int)) by omega, wdv_drop b p _ (by omega)]

theorem covIts_drop (b : List Int) (p : Nat) (hp : p ≤ b.length) : covIts b (p : Int) = covIts (b.drop p) 0 := by
  have e0 : (p : Int) = (p : Int) + 0 := by omega
  unfold covIts
  rw [rdv_drop b p hp 2 (by decide), has_drop b p hp 2 _ _ (by decide), has_drop b p hp 4 _ _ (by decide), has_drop b p hp 4 _ _ (by decide), wds_drop b p 4 _ (by decide), wds_drop b p 4 _ (by decide)]
  have e1 : rdv b (p : Int) = rdv (b.drop p) 0 := by rw [e0]; exact rdv_drop b p hp 0 (by decide)
  have e2 : hasB b (p : Int) 1 2 = hasB (b.drop p) 0 1 2 := by rw [e0]; exact has_drop b p hp 0 _ _ (by decide)
  rw [e1, e2]
  rfl

theorem clsIts_drop (b : List Int) (p : Nat) (hp : p ≤ b.length) (g : Int) : clsIts b (p : Int) g = clsIts (b.drop p) 0 g := by
  have e0 : (p : Int) = (p : Int) + 0 := by omega
  unfold clsIts
  have e1 : rdv b (p : Int) = rdv (b.drop p) 0 := by rw [e0]; exact rdv_drop b p hp 0 (by decide)
  have e2 : hasB b (p : Int) 1 2 = hasB (b.drop p) 0 1 2 := by rw [e0]; exact has_drop b p hp 0 _ _ (by decide)
  rw [rdv_drop b p hp 2 (by decide), rdv_drop b p hp 4 (by decide), has_drop b p hp 2 _ _ (by decide), has_drop b p hp 4 _ _ (by decide), has_drop b p hp 4 _ _ (by decide), has_drop b p hp 6 _ _ (by decide), wds_drop b p 4 _ (by decide), wds_drop b p 6 _ (by decide), e1, e2]
  rfl

theorem cov_fits {g : Int} : ∀ (its : List (Int × Int × Int)) (l l' : List Int) (e : Int), (∀ x ∈ its, x.2.1 ≤ 65535) → -1 ≤ e → e ≤ 65535 → (l.length : Int) ≤ e + 1 → covI g its l e = some l' → l'.length ≤ 65536 := by
  intro its l l' e hw h0 h1 hl h
  obtain ⟨c, _, hc⟩ := cov_rounds 70000 (by omega) g its l e hw h0 h1 hl
  rw [h] at hc
  cases c with
  | go s => obtain ⟨l2, e2⟩ := s; have := hc.1; injection this with this; subst this; exact hc.2
  | ret s => cases hc

theorem covR_len (b : List Int) (p g : Int) : (covR g (covIts b p).1 (covIts b p).2).1.length ≤ 65536 := by
  unfold covR
  split
  · split
    · exact Nat.zero_le _
    · split
      · split
        · rename_i l' _ h; show l'.length ≤ _; omega
        · exact Nat.zero_le _
      · exact Nat.zero_le _
  · exact Nat.zero_le _

set_option maxRecDepth 100000 in
theorem works_true : fWorks 200000 = some true := by kernel_rfl

/-- what is read at a place is what is read of the bytes from there on -/
theorem at_true (b : List Int) (hU : U8 b) (p g : Int) : fAt 200000 b p g = some true := by
  unfold fAt
  by_cases h1 : (b.length : Int) > 2000
  · rw [if_pos h1, works_true]; rfl
  · have hb : b.length ≤ 1000000000 := by omega
    rw [if_neg h1]
    by_cases h2 : p < 0
    · rw [if_pos h2, works_true]; rfl
    · rw [if_neg h2]
      by_cases h3 : p > (b.length : Int)
      · rw [if_pos h3, works_true]; rfl
      · rw [if_neg h3]
        obtain ⟨n, rfl⟩ : ∃ n : Nat, p = (n : Int) := ⟨p.toNat, by omega⟩
        have hn : n ≤ b.length := by omega
        have hUd : U8 (b.drop n) := fun x hx => hU x (List.mem_of_mem_drop hx)
        have hcut : cutx b (n : Int) (b.length : Int) = some (b.drop n) := by
          unfold cutx
          rw [if_pos ⟨by omega, by omega, by omega⟩]
          simp
        obtain ⟨f1, e1⟩ := cov_eq 200000 (by omega) b n g hU hb (by omega) (by omega)
        obtain ⟨f2, e2⟩ := cov_eq 200000 (by omega) (b.drop n) 0 g hUd (by rw [List.length_drop]; omega) (by omega) (by omega)
        obtain ⟨f3, e3⟩ := cls_eq 200000 (by omega) b n g hU hb (by omega) (by omega)
        obtain ⟨f4, e4⟩ := cls_eq 200000 (by omega) (b.drop n) 0 g hUd (by rw [List.length_drop]; omega) (by omega) (by omega)
        rw [covIts_drop b n hn] at e1
        rw [clsIts_drop b n hn] at e3
        simp only [Option.bind_some, open_eq _ b hb, open_eq _ (b.drop n) (by rw [List.length_drop]; omega), hcut, e1, e2, e3, e4, if_true, kBytes_same, works_true]
        rw [kWords_same 200000 _ (by have := covR_len (b.drop n) 0 g; omega) (by have := covR_len (b.drop n) 0 g; omega)]
        rfl

theorem at_calls (W : World) (a : List Int) (ha : U8 a) {A : Option Addr} {c : Nat} (hr : Vw [] .u8 W A c a) (p g : Int) :
    Calls Try.prog 6 #[.slice A a.length c, .int .i64 p, .int .i64 g] W fun e W' => e = .returned (.bool true) ∧ Below W.heap.size W W' := by
  refine (fAt_ok 200000 a p g A c true (at_true a ha p g) W hr).mono ?_
  rintro e w ⟨v, rfl, rfl, h⟩
  exact ⟨rfl, h.below⟩
end Go.Proofs.Ytfgienbhdpmekaa
