/-
  Substitutions: what is read, step by step.
-/
import Derived.Test.YtgjlpiljacecpaaMc
import Derived.Test.YtgjlpiljacecpaaHA
namespace Go.Proofs.Ytgjlpiljacecpaa
open Go Go.RowKit
set_option linter.unusedVariables false
set_option linter.unusedSectionVars false
set_option linter.unusedSimpArgs false
def PanG {α β : Type} (o : Option (Pan α β)) (P : α → Prop) : Prop := ∃ r, o = some r ∧ ∀ a, r = .ok a → P a
theorem good_ok {α β : Type} {P : α → Prop} {a : α} (h : P a) : PanG (some (Pan.ok a) : Option (Pan α β)) P := ⟨_, rfl, fun _ e => by injection e with e; rw [← e]; exact h⟩
theorem good_gone {α β : Type} {P : α → Prop} {g : β} : PanG (some (Pan.gone g) : Option (Pan α β)) P := ⟨_, rfl, fun _ e => by cases e⟩
theorem good_bind {α β γ δ : Type} {o : Option (Pan α β)} {f : Pan α β → Option (Pan γ δ)} {P : α → Prop} {Q : γ → Prop} (h : PanG o P) (hk : ∀ a, P a → PanG (f (.ok a)) Q) (hg : ∀ g, ∃ g', f (.gone g) = some (.gone g')) : PanG (o.bind f) Q := by
  obtain ⟨r, rfl, hr⟩ := h
  cases r with
  | ok a => exact hk a (hr a rfl)
  | gone g => obtain ⟨g', e⟩ := hg g; rw [Option.bind_some, e]; exact good_gone
theorem good_mono {α β : Type} {o : Option (Pan α β)} {P Q : α → Prop} (h : PanG o P) (hPQ : ∀ a, P a → Q a) : PanG o Q := by
  obtain ⟨r, e, hr⟩ := h; exact ⟨r, e, fun a ha => hPQ a (hr a ha)⟩
def PanC {σ α β : Type} (o : Option (Ctl σ (Pan α β))) (P : σ → Prop) : Prop := ∃ r, o = some r ∧ ((∃ s, r = .go s ∧ P s) ∨ ∃ g, r = .ret (.gone g))
theorem goodc_go {σ α β : Type} {P : σ → Prop} {s : σ} (h : P s) : PanC (some (Ctl.go s) : Option (Ctl σ (Pan α β))) P := ⟨_, rfl, .inl ⟨s, rfl, h⟩⟩
theorem goodc_gone {σ α β : Type} {P : σ → Prop} {g : β} : PanC (some (Ctl.ret (Pan.gone g)) : Option (Ctl σ (Pan α β))) P := ⟨_, rfl, .inr ⟨g, rfl⟩⟩
theorem goodc_bind {σ α β γ δ : Type} {o : Option (Pan α β)} {f : Pan α β → Option (Ctl σ (Pan γ δ))} {P : α → Prop} {Q : σ → Prop} (h : PanG o P) (hk : ∀ a, P a → PanC (f (.ok a)) Q) (hg : ∀ g, ∃ g', f (.gone g) = some (.ret (.gone g'))) : PanC (o.bind f) Q := by
  obtain ⟨r, rfl, hr⟩ := h
  cases r with
  | ok a => exact hk a (hr a rfl)
  | gone g => obtain ⟨g', e⟩ := hg g; rw [Option.bind_some, e]; exact goodc_gone
theorem goodc_end {σ α β γ δ : Type} {o : Option (Ctl σ (Pan α β))} {f : Ctl σ (Pan α β) → Option (Pan γ δ)} {P : σ → Prop} {Q : γ → Prop} (h : PanC o P) (hk : ∀ s, P s → PanG (f (.go s)) Q) (hg : ∀ g, ∃ g', f (.ret (.gone g)) = some (.gone g')) : PanG (o.bind f) Q := by
  obtain ⟨r, rfl, ⟨s, rfl, hs⟩ | ⟨g, rfl⟩⟩ := h
  · exact hk s hs
  · obtain ⟨g', e⟩ := hg g; rw [Option.bind_some, e]; exact good_gone
theorem goodc_then {σ τ α β γ δ : Type} {o : Option (Ctl σ (Pan α β))} {f : Ctl σ (Pan α β) → Option (Ctl τ (Pan γ δ))} {P : σ → Prop} {Q : τ → Prop} (h : PanC o P) (hk : ∀ s, P s → PanC (f (.go s)) Q) (hg : ∀ g, ∃ g', f (.ret (.gone g)) = some (.ret (.gone g'))) : PanC (o.bind f) Q := by
  obtain ⟨r, rfl, ⟨s, rfl, hs⟩ | ⟨g, rfl⟩⟩ := h
  · exact hk s hs
  · obtain ⟨g', e⟩ := hg g; rw [Option.bind_some, e]; exact goodc_gone
theorem goodc_mono {σ α β : Type} {o : Option (Ctl σ (Pan α β))} {P Q : σ → Prop} (h : PanC o P) (hPQ : ∀ a, P a → Q a) : PanC o Q := by
  obtain ⟨r, e, h | h⟩ := h
  · obtain ⟨s, e2, hs⟩ := h; exact ⟨r, e, .inl ⟨s, e2, hPQ s hs⟩⟩
  · exact ⟨r, e, .inr h⟩
theorem require_good (N : Nat) (c : Bool) : PanG (gRequire N c) fun _ => c = true := by
  cases c with
  | true => exact good_ok rfl
  | false => exact good_gone
theorem wp1 (i : Nat) (h : i ≤ 1000000000) : IntKind.i64.wrap ((i : Int) + 1) = ((i + 1 : Nat) : Int) := by rw [w64 (by omega) (by omega)]; rfl
theorem ixg_eq {α : Type} {l : List α} {i : Nat} (h : i < l.length) : ixg l (i : Int) = some l[i] := by unfold ixg; rw [if_pos (by omega)]; simp [h]
theorem setg_eq {α : Type} {l : List α} {i : Nat} (h : i < l.length) (v : α) : setg l (i : Int) v = some (l.set i v) := by unfold setg; rw [if_pos (by omega)]; simp
theorem apg_eq {α : Type} {l m : List α} (h : l.length + m.length ≤ 1000000000) : apg l m = some (l ++ m) := by unfold apg; rw [if_pos h]
section
variable (N : Nat) (b : List Int) (g lk : Int) (hU : U8 b) (hb : b.length ≤ 3000) (hN : 1000000 < N)
include hU hb hN
theorem gcount_good (c : Int) (q : Bool) (n : Int) : PanG (gCount N g lk c b q n) fun c' => c' = IntKind.i64.wrap (c + n) ∧ c' ≤ 65536 := by
  unfold gCount
  refine good_bind (require_good N _) (fun a h => good_ok ⟨rfl, of_decide_eq_true h⟩) (fun x => ⟨_, rfl⟩)
theorem gwords_good (c p n : Int) (hn : n ≤ 1000000) : PanG (gWords N g lk c b false p n) fun r => r = (wds b p n.toNat, false) ∧ hasB b p n 2 = true := by
  unfold gWords
  rw [words_eq N b false p n hU (by omega) (by omega), Option.bind_some]
  simp only [qBad, Option.bind_some]
  refine good_bind (require_good N _) (fun a h => good_ok ?_) (fun x => ⟨_, rfl⟩)
  cases hh : hasB b p n 2 with
  | true => simp
  | false => rw [hh] at h; cases h
theorem gword_good (c p : Int) : PanG (gWord N g lk c b false p) fun r => r = (rdv b p, false) ∧ hasB b p 1 2 = true := by
  unfold gWord
  rw [word_eq N b false p hU (by omega), Option.bind_some]
  simp only [qBad, Option.bind_some]
  refine good_bind (require_good N _) (fun a h => good_ok ?_) (fun x => ⟨_, rfl⟩)
  cases hh : hasB b p 1 2 with
  | true => simp
  | false => rw [hh] at h; cases h
theorem gsize_good (c p : Int) : PanG (gSize N g lk c b false p) fun r => r = (rdv b p, false) ∧ 1 ≤ rdv b p ∧ hasB b p 1 2 = true := by
  unfold gSize
  refine good_bind (gword_good N b g lk hU hb hN c p) ?_ (fun x => ⟨_, rfl⟩)
  rintro ⟨x, q⟩ ⟨e, h⟩
  injection e with e1 e2
  subst e1; subst e2
  have hr := rdv_in hU p
  show PanG ((gRequire N (decide ((IntKind.i64.wrap (rdv b p)) ≥ 1))).bind _) _
  rw [w64 (by omega) (by omega)]
  exact good_bind (require_good N _) (fun a h1 => good_ok ⟨rfl, of_decide_eq_true h1, h⟩) (fun x => ⟨_, rfl⟩)
theorem glist_good (c p : Int) (hp : 0 ≤ p ∧ p ≤ 1000000) : PanG (gList N g lk c b false p) fun r => r = (wds b (p + 2) (rdv b p).toNat, false) ∧ hasB b (p + 2) (rdv b p) 2 = true ∧ hasB b p 1 2 = true := by
  unfold gList
  refine good_bind (gword_good N b g lk hU hb hN c p) ?_ (fun x => ⟨_, rfl⟩)
  rintro ⟨x, q⟩ ⟨e, h⟩
  injection e with e1 e2
  subst e1; subst e2
  have hr := rdv_in hU p
  show PanG ((gWords N g lk c b false (IntKind.i64.wrap (p + 2)) (IntKind.i64.wrap (rdv b p))).bind _) _
  rw [w64 (x := p + 2) (by omega) (by omega), w64 (x := rdv b p) (by omega) (by omega)]
  refine good_bind (gwords_good N b g lk hU hb hN c _ _ (by omega)) ?_ (fun x => ⟨_, rfl⟩)
  rintro ⟨l, q⟩ ⟨e, h2⟩
  injection e with e1 e2
  subst e1; subst e2
  exact good_ok ⟨rfl, h2, h⟩
omit hU hb in
theorem gright_loop (l : List Int) (hl : l.length ≤ 1000000) (hL : U16 l) : ∀ (k i : Nat), l.length - i < k → i ≤ l.length →
    (∃ r, gRight_L1 N g l k (i : Int) = some r ∧ ((r = Ctl.go () ∧ ∀ x ∈ l.drop i, x < g) ∨ ∃ e, r = Ctl.ret (Pan.gone e)))
  | 0, i, h, _ => absurd h (Nat.not_lt_zero _)
  | k + 1, i, h, hi => by
    unfold gRight_L1
    by_cases hx : i < l.length
    · have h1 := hL.at i
      rw [if_pos (by omega), ix_nat hx, Option.bind_some, w64 (x := l.getD i 0) (by omega) (by omega)]
      obtain ⟨r, e, hr⟩ := require_good N (decide (l.getD i 0 < g))
      rw [e, Option.bind_some]
      cases r with
      | gone z => exact ⟨_, rfl, .inr ⟨_, rfl⟩⟩
      | ok z =>
        have h2 := of_decide_eq_true (hr z rfl)
        show ∃ r, gRight_L1 N g l k (IntKind.i64.wrap ((i : Int) + 1)) = some r ∧ _
        rw [wp1 i (by omega)]
        obtain ⟨r, e, h3 | h3⟩ := gright_loop l hl hL k (i + 1) (by omega) (by omega)
        · refine ⟨r, e, .inl ⟨h3.1, fun x hx2 => ?_⟩⟩
          rw [show l.drop i = l.getD i 0 :: l.drop (i + 1) from drop_cons hx] at hx2
          rcases List.mem_cons.1 hx2 with rfl | hx2
          · exact h2
          · exact h3.2 x hx2
        · exact ⟨r, e, .inr h3⟩
    · rw [if_neg (by omega)]
      refine ⟨_, rfl, .inl ⟨rfl, fun x hx2 => ?_⟩⟩
      rw [List.drop_eq_nil_of_le (by omega)] at hx2
      cases hx2
omit hU in
theorem gright_good (c : Int) (q : Bool) (l : List Int) (hl : l.length ≤ 200000) (hL : U16 l) : PanG (gRight N g lk c b q l) fun _ => ∀ x ∈ l, x < g := by
  unfold gRight
  obtain ⟨r, e, h | h⟩ := gright_loop N g hN l (by omega) hL N 0 (by omega) (Nat.zero_le _)
  · have e' : gRight_L1 N g l N 0 = some r := e
    rw [e', h.1]
    exact good_ok (by simpa using h.2)
  · have e' : gRight_L1 N g l N 0 = some r := e
    obtain ⟨z, rfl⟩ := h
    rw [e']
    exact good_gone
def RiseL (g : Int) (l : List Int) : Prop := l.Pairwise (· < ·) ∧ (∀ x ∈ l, 0 ≤ x ∧ x < g ∧ x ≤ 65535) ∧ 1 ≤ l.length ∧ l.length ≤ 65535
omit hU hb hN in
theorem upI_mem {a z x : Int} : x ∈ upI a z ↔ a ≤ x ∧ x ≤ z := by
  unfold upI
  rw [List.mem_map]
  constructor
  · rintro ⟨i, hi, rfl⟩; have := List.mem_range.1 hi; omega
  · intro h; exact ⟨(x - a).toNat, List.mem_range.2 (by omega), by omega⟩
omit hU hb hN in
theorem upI_pair (a z : Int) : (upI a z).Pairwise (· < ·) := by
  unfold upI
  rw [List.pairwise_map]
  exact List.pairwise_lt_range.imp (fun h => by omega)
omit hU hb hN in
theorem covI_rise (g : Int) : ∀ (its : List (Int × Int × Int)) (l : List Int) (e : Int) (r : List Int), covI g its l e = some r → (∀ x ∈ its, x.2.1 ≤ 65535) → -1 ≤ e → l.Pairwise (· < ·) → (∀ x ∈ l, 0 ≤ x ∧ x < g ∧ x ≤ e ∧ x ≤ 65535) →
    r.Pairwise (· < ·) ∧ ∀ x ∈ r, 0 ≤ x ∧ x < g ∧ x ≤ 65535
  | [], l, e, r, h, _, _, hp, hm => by
    injection h with h; subst h
    exact ⟨hp, fun x hx => by have := hm x hx; omega⟩
  | (a, z, k) :: t, l, e, r, h, hw, he, hp, hm => by
    unfold covI at h
    split at h
    · rename_i hc
      have hz : z ≤ 65535 := hw (a, z, k) (by simp)
      refine covI_rise g t _ z r h (fun x hx => hw x (List.mem_cons_of_mem _ hx)) (by omega) ?_ ?_
      · refine List.pairwise_append.2 ⟨hp, upI_pair a z, fun x hx y hy => ?_⟩
        have h1 := hm x hx; have h2 := upI_mem.1 hy; omega
      · intro x hx
        rcases List.mem_append.1 hx with hx | hx
        · have := hm x hx; omega
        · have := upI_mem.1 hx; omega
    · cases h
omit hb hN in
theorem covR_rise (p : Int) (h : (covR g (covIts b p).1 (covIts b p).2).2 = 0) : RiseL g (covR g (covIts b p).1 (covIts b p).2).1 := by
  unfold covR at h ⊢
  split at h
  · cases hi : (covIts b p).1 with
    | none => rw [hi] at h; cases h
    | some its =>
      rw [hi] at h
      simp only at h ⊢
      cases hc : covI g its [] (-1) with
      | none => rw [hc] at h; cases h
      | some l =>
        rw [hc] at h
        simp only at h ⊢
        split at h
        · rename_i h2 h3
          rw [if_pos h2, if_pos h3]
          have h4 := covI_rise g its [] (-1) l hc (covIts_in hU p hi) (by omega) List.Pairwise.nil (fun x hx => by cases hx)
          exact ⟨h4.1, h4.2, h3⟩
        · cases h
  · cases h
abbrev covL (b : List Int) (g p : Int) : List Int := (covR g (covIts b p).1 (covIts b p).2).1
theorem gcov_good (c p : Int) (hp : 0 ≤ p ∧ p ≤ 1000000) : PanG (gCoverage N g lk c b false p) fun r => r = (covL b g p, IntKind.i64.wrap (c + ((covL b g p).length : Nat)), false) ∧ RiseL g (covL b g p) ∧ IntKind.i64.wrap (c + ((covL b g p).length : Nat)) ≤ 65536 := by
  unfold gCoverage
  obtain ⟨f, e, hf⟩ := cov_eq N (by omega) b p g hU (by omega) hp.1 (by omega)
  rw [e, Option.bind_some]
  refine good_bind (require_good N _) (fun a h => ?_) (fun x => ⟨_, rfl⟩)
  have h0 : (covR g (covIts b p).1 (covIts b p).2).2 = 0 := of_decide_eq_true h
  obtain rfl := hf h0
  refine good_bind (gcount_good N b g lk hU hb hN c _ _) ?_ (fun x => ⟨_, rfl⟩)
  rintro c' ⟨rfl, h2⟩
  exact good_ok ⟨rfl, covR_rise b g hU p h0, h2⟩
theorem gcovered_good (c p : Int) (hp : 0 ≤ p ∧ p ≤ 900000) : PanG (gCovered N g lk c b false p) fun r => r = (covL b g (p + rdv b (p + 2)), IntKind.i64.wrap (c + ((covL b g (p + rdv b (p + 2))).length : Nat)), false) ∧ RiseL g (covL b g (p + rdv b (p + 2))) ∧ IntKind.i64.wrap (c + ((covL b g (p + rdv b (p + 2))).length : Nat)) ≤ 65536 := by
  unfold gCovered
  rw [w64 (x := p + 2) (by omega) (by omega)]
  refine good_bind (gword_good N b g lk hU hb hN c _) ?_ (fun x => ⟨_, rfl⟩)
  rintro ⟨x, q⟩ ⟨e, h⟩
  injection e with e1 e2
  subst e1; subst e2
  have hr := rdv_in hU (p + 2)
  show PanG ((gCoverage N g lk c b false (IntKind.i64.wrap (p + (IntKind.i64.wrap (rdv b (p + 2)))))).bind _) _
  rw [w64 (x := rdv b (p + 2)) (by omega) (by omega), w64 (x := p + rdv b (p + 2)) (by omega) (by omega)]
  refine good_bind (gcov_good N b g lk hU hb hN c _ (by omega)) ?_ (fun x => ⟨_, rfl⟩)
  rintro ⟨l, c', q⟩ ⟨e, h2, h3⟩
  injection e with e1 e2
  injection e2 with e2 e3
  subst e1; subst e2; subst e3
  exact good_ok ⟨rfl, h2, h3⟩
theorem geach_good (c p : Int) (hp : 0 ≤ p ∧ p ≤ 800000) : PanG (gEach N g lk c b false p) fun r => r.1 = covL b g (p + rdv b (p + 2)) ∧ r.2.1 = wds b (p + 6) (rdv b (p + 4)).toNat ∧ r.1.length = r.2.1.length ∧ RiseL g r.1 ∧ hasB b (p + 6) (rdv b (p + 4)) 2 = true ∧ r.2.2.1 = IntKind.i64.wrap (c + (r.1.length : Nat)) ∧ r.2.2.1 ≤ 65536 ∧ r.2.2.2 = false := by
  unfold gEach
  refine good_bind (gcovered_good N b g lk hU hb hN c p (by omega)) ?_ (fun x => ⟨_, rfl⟩)
  rintro ⟨l, c', q⟩ ⟨e, h2, h3⟩
  injection e with e1 e2
  injection e2 with e2 e3
  subst e1; subst e2; subst e3
  show PanG ((gList N g lk _ b false (IntKind.i64.wrap (p + 4))).bind _) _
  rw [w64 (x := p + 4) (by omega) (by omega)]
  refine good_bind (glist_good N b g lk hU hb hN _ _ (by omega)) ?_ (fun x => ⟨_, rfl⟩)
  rintro ⟨l, q⟩ ⟨e, h4, h5⟩
  injection e with e1 e2
  subst e1; subst e2
  refine good_bind (require_good N _) (fun a h => good_ok ?_) (fun x => ⟨_, rfl⟩)
  have h6 := of_decide_eq_true h
  rw [show p + 4 + 2 = p + 6 by omega] at h6 h4 ⊢
  exact ⟨rfl, rfl, by exact_mod_cast h6, h2, h4, rfl, h3, rfl⟩
end
end Go.Proofs.Ytgjlpiljacecpaa
