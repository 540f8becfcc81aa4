/-
  The document's levels are those by the stack: the whole.
-/
import Derived.Test.YtjndolnjhbgflaaE3
namespace Go.Proofs.Ytjndolnjhbgflaa
open Go Go.RowKit
set_option linter.unusedVariables false
set_option linter.unusedSectionVars false
set_option linter.unusedSimpArgs false

def fin3 : Option (Ctl (List Int × List Int × Int) (Int × List Int × List Int)) → Option (Int × List Int × List Int) := fun o => o.bind fun | Ctl.go (a, b, x) => some (x, a, b) | Ctl.ret r => some r

def upd (o : Option (Int × Int)) (i : Nat) (a : List Int × List Int) : List Int × List Int := match o with
  | some (v, k) => (a.1.set i v, a.2.set i k)
  | none => a

/-- rows of levels and classes, filled from a state on -/
def arrM (base : Int) : Ms → Nat → List Int → List Int → List Int × List Int → List Int × List Int
  | _, _, [], _, a => a
  | s, i, c :: r, x, a => arrM base (stepM base s c (rightw true 0 (r ++ x))).1 (i + 1) r x (upd (stepM base s c (rightw true 0 (r ++ x))).2 i a)

theorem upd_len (o : Option (Int × Int)) (i : Nat) (a : List Int × List Int) : (upd o i a).1.length = a.1.length ∧ (upd o i a).2.length = a.2.length := by
  unfold upd
  split <;> simp

theorem arrM_len (base : Int) (x : List Int) : ∀ (r : List Int) (s : Ms) (i : Nat) (a : List Int × List Int), (arrM base s i r x a).1.length = a.1.length ∧ (arrM base s i r x a).2.length = a.2.length
  | [], _, _, _ => ⟨rfl, rfl⟩
  | c :: r, s, i, a => by
    unfold arrM
    have h1 := arrM_len base x r (stepM base s c (rightw true 0 (r ++ x))).1 (i + 1) (upd (stepM base s c (rightw true 0 (r ++ x))).2 i a)
    have h2 := upd_len (stepM base s c (rightw true 0 (r ++ x))).2 i a
    exact ⟨h1.1.trans h2.1, h1.2.trans h2.2⟩

theorem arrM_cons (base : Int) (s : Ms) (i : Nat) (c : Int) (r x : List Int) (a : List Int × List Int) : arrM base s i (c :: r) x a = arrM base (stepM base s c (rightw true 0 (r ++ x))).1 (i + 1) r x (upd (stepM base s c (rightw true 0 (r ++ x))).2 i a) := rfl

theorem arrM_app (base : Int) (x : List Int) : ∀ (p r : List Int) (s : Ms) (i : Nat) (a : List Int × List Int), arrM base s i (p ++ r) x a = arrM base (endM base s p (r ++ x)) (i + p.length) r x (arrM base s i p (r ++ x) a)
  | [], r, s, i, a => rfl
  | c :: p, r, s, i, a => by
    rw [List.cons_append, arrM_cons, arrM_cons, endM_cons, List.append_assoc, arrM_app base x p r, List.length_cons, show i + 1 + p.length = i + (p.length + 1) by omega]

def Post (e : En) (rest : List En) (v : Nat) (kind : Int) (t : Ms) (suf : List Int) : Prop :=
  suf = [] ∨ (∃ r, suf = 11 :: r ∧ kind ≠ 0) ∨ (∃ r T, suf = 23 :: r ∧ 0 < v ∧ t.oi = 0 ∧ t.stk = T ++ e :: rest ∧ (∀ y ∈ T, y.iso = false) ∧ t.vi = v) ∨ (∃ r, suf = 19 :: r ∧ kind = 1 ∧ t = ⟨e :: rest, 0, 0, v⟩)

def Res (base : Int) (l : List Int) (e : En) (rest : List En) (v : Nat) (kind : Int) (s : Ms) (i : Nat) (a : List Int × List Int) (o : Option (Ctl (List Int × List Int × Int) (Int × List Int × List Int))) : Prop :=
  ∃ seg suf, l.drop i = seg ++ suf ∧ fin3 o = some (((i + seg.length : Nat) : Int), (arrM base s i seg suf a).1, (arrM base s i seg suf a).2) ∧ Post e rest v kind (endM base s seg suf) suf

theorem popIso_T (e : En) (he : e.iso = true) (rest : List En) : ∀ (T : List En), (∀ y ∈ T, y.iso = false) → popIso (T ++ e :: rest) = rest
  | [], _ => by rw [List.nil_append, popIso_cons, if_pos he]
  | y :: T, h => by
    rw [List.cons_append, popIso_cons, if_neg (by rw [h y (by simp)]; simp)]
    exact popIso_T e he rest T fun z hz => h z (by simp [hz])

section
variable {base : Int} {l : List Int} {e : En} {rest : List En} {v : Nat} {kind : Int} {s : Ms} {i : Nat} {a : List Int × List Int} {o : Option (Ctl (List Int × List Int × Int) (Int × List Int × List Int))}

theorem res_step (hi : i < l.length) (s' : Ms) (out : Option (Int × Int)) (hs : stepM base s (l.getD i 0) (rightw true 0 (l.drop (i + 1))) = (s', out)) (h : Res base l e rest v kind s' (i + 1) (upd out i a) o) : Res base l e rest v kind s i a o := by
  obtain ⟨seg, suf, h1, h2, h3⟩ := h
  refine ⟨l.getD i 0 :: seg, suf, by rw [drop_e hi, h1]; rfl, ?_, ?_⟩
  · rw [arrM_cons, ← h1, hs, List.length_cons, h2, show i + 1 + seg.length = i + (seg.length + 1) by omega]
  · rw [endM_cons, ← h1, hs]; exact h3

theorem res_glue (seg suf : List Int) (h0 : l.drop i = seg ++ suf) (h : Res base l e rest v kind (endM base s seg suf) (i + seg.length) (arrM base s i seg suf a) o) : Res base l e rest v kind s i a o := by
  obtain ⟨seg2, suf2, h1, h2, h3⟩ := h
  have hsuf : suf = seg2 ++ suf2 := by
    rw [← h1, ← List.drop_drop, h0, List.drop_left]
  subst hsuf
  refine ⟨seg ++ seg2, suf2, by rw [h0, List.append_assoc], ?_, ?_⟩
  · rw [arrM_app, h2, List.length_append, Nat.add_assoc]
  · rw [endM_app]; exact h3

theorem res_stop (hg : fin3 o = some ((i : Int), a.1, a.2)) (hp : Post e rest v kind s (l.drop i)) : Res base l e rest v kind s i a o :=
  ⟨[], l.drop i, rfl, by rw [hg]; rfl, hp⟩
end

theorem step_B (base : Int) (s : Ms) (f : Bool) : stepM base s 11 f = (ms0 base, some (base, 11)) := rfl
theorem step_P0 (base : Int) (s : Ms) (f : Bool) (ho : 0 < s.oi) : stepM base s 23 f = ({ s with oi := s.oi - 1 }, some (topL s.stk base, clsO s.stk 23)) := by
  unfold stepM; rw [if_neg (by decide), if_pos rfl]; simp only; rw [if_pos ho]
theorem step_P1 (base : Int) (s : Ms) (f : Bool) (ho : s.oi = 0) (hv : 0 < s.vi) : stepM base s 23 f = (⟨popIso s.stk, 0, 0, s.vi - 1⟩, some (topL (popIso s.stk) base, clsO (popIso s.stk) 23)) := by
  unfold stepM; rw [if_neg (by decide), if_pos rfl]; simp only; rw [if_neg (by omega), if_pos hv]
theorem step_P2 (base : Int) (s : Ms) (f : Bool) (ho : s.oi = 0) (hv : s.vi = 0) : stepM base s 23 f = (s, some (topL s.stk base, clsO s.stk 23)) := by
  unfold stepM; rw [if_neg (by decide), if_pos rfl]; simp only; rw [if_neg (by omega), if_neg (by omega)]
theorem step_F (base : Int) (s : Ms) (f : Bool) : stepM base s 19 f = (if 0 < s.oi then s else if 0 < s.oe then { s with oe := s.oe - 1 } else match s.stk with
      | e :: f :: r => if e.iso then s else { s with stk := f :: r }
      | _ => s, none) := rfl
theorem step_I (base : Int) (s : Ms) (c : Int) (f : Bool) (hc : isInit c = true) : stepM base s c f = (if s.oi = 0 ∧ s.oe = 0 ∧ nextL (topL s.stk base) (c == 21 || (c == 22 && f)) ≤ 125 then { s with stk := ⟨nextL (topL s.stk base) (c == 21 || (c == 22 && f)), 0, true⟩ :: s.stk, vi := s.vi + 1 } else { s with oi := s.oi + 1 }, some (topL s.stk base, clsO s.stk c)) := by
  have hi := hc
  rw [isInit_iff] at hi
  unfold stepM; rw [if_neg (by omega), if_neg (by omega), if_neg (by omega), if_pos hc]
theorem step_E (base : Int) (s : Ms) (c : Int) (f : Bool) (hc : isEmb c = true) : stepM base s c f = (if s.oi = 0 ∧ s.oe = 0 ∧ nextL (topL s.stk base) (c == 16 || c == 18) ≤ 125 then { s with stk := ⟨nextL (topL s.stk base) (c == 16 || c == 18), ovrOf c, false⟩ :: s.stk } else if s.oi = 0 then { s with oe := s.oe + 1 } else s, none) := by
  have hi := hc
  rw [isEmb_iff] at hi
  unfold stepM; rw [if_neg (by omega), if_neg (by omega), if_neg (by omega), if_neg (by rw [isInit_iff]; omega), if_pos hc]
theorem step_O (base : Int) (s : Ms) (c : Int) (f : Bool) (n11 : c ≠ 11) (n23 : c ≠ 23) (nr : isRem c = false) (ni : isInit c = false) : stepM base s c f = (s, some (topL s.stk base, clsO s.stk c)) := by
  have hr : ¬ (c = 15 ∨ c = 16 ∨ c = 17 ∨ c = 18 ∨ c = 19 ∨ c = 10) := fun h => by rw [(isRem_iff c).2 h] at nr; cases nr
  unfold stepM; rw [if_neg n11, if_neg n23, if_neg (by omega), if_neg (by rw [ni]; simp), if_neg (by rw [isEmb_iff]; omega), if_neg (by omega)]

theorem ix_drop {l : List Int} {j : Nat} {d : Int} {r : List Int} (h : l.drop j = d :: r) : j < l.length ∧ l.getD j 0 = d ∧ ix l (j : Int) = some d := by
  have hj : j < l.length := by
    apply Decidable.byContradiction
    intro hn
    rw [List.drop_eq_nil_of_le (by omega)] at h
    cases h
  have h2 := drop_e hj
  rw [h] at h2
  injection h2 with h3 _
  exact ⟨hj, h3.symm, by rw [ixe hj, ← h3]⟩

def Frame (base : Int) (e : En) (rest : List En) (v : Nat) (kind : Int) : Prop :=
  (kind = 0 ∧ e = ⟨base, 0, false⟩ ∧ rest = [] ∧ v = 0) ∨ (kind = 1 ∧ e.iso = false ∧ rest ≠ []) ∨ (kind = 2 ∧ e.iso = true ∧ 0 < v)

set_option maxHeartbeats 2000000 in
theorem within_res (N : Nat) (l : List Int) (base : Int) (hb : 0 ≤ base ∧ base ≤ 1) (hl : l.length ≤ 100000000) (hN : l.length + 1 < N) : ∀ (m i : Nat), l.length - i ≤ m → i ≤ l.length → ∀ (k q : Nat), l.length - i < k → l.length - i ≤ q →
    ∀ (e : En) (rest : List En) (v oi oe : Nat) (kind : Int) (held : Bool) (a : List Int × List Int), a.1.length = l.length → a.2.length = l.length → (0 ≤ e.lev ∧ e.lev ≤ 125) → oi ≤ i → oe ≤ i → Frame base e rest v kind → held = decide (0 < v) →
    Res base l e rest v kind ⟨e :: rest, oi, oe, v⟩ i a (LL N q l base e kind held k a.1 a.2 i oi oe) := by
  intro m
  induction m with
  | zero =>
    intro i him hi k q hk hq e rest v oi oe kind held a h1 h2 hlev ho he hfr hh
    obtain ⟨k, rfl⟩ : ∃ k', k = k' + 1 := ⟨k - 1, by omega⟩
    exact res_stop (by rw [LL_end (by omega)]; rfl) (.inl (List.drop_eq_nil_of_le (by omega)))
  | succ m ih =>
    intro i him hi k q hk hq e rest v oi oe kind held a h1 h2 hlev ho he hfr hh
    obtain ⟨k, rfl⟩ : ∃ k', k = k' + 1 := ⟨k - 1, by omega⟩
    by_cases hnn : ¬ i < l.length
    · exact res_stop (by rw [LL_end hnn]; rfl) (.inl (List.drop_eq_nil_of_le (by omega)))
    have hn : i < l.length := Decidable.not_not.1 hnn
    clear hnn
    obtain ⟨c, hx⟩ : ∃ c, l.getD i 0 = c := ⟨_, rfl⟩
    have hdr := drop_e hn
    rw [hx] at hdr
    have hll : l.length ≤ 900000000 := by omega
    -- go on in the same frame
    have on : ∀ (j : Nat), i < j → j ≤ l.length → ∀ (oi' oe' : Nat) (a' : List Int × List Int), a'.1.length = l.length → a'.2.length = l.length → oi' ≤ j → oe' ≤ j → Res base l e rest v kind ⟨e :: rest, oi', oe', v⟩ j a' (LL N q l base e kind held k a'.1 a'.2 j oi' oe') :=
      fun j hj hjl oi' oe' a' g1 g2 g3 g4 => ih j (by omega) hjl k q (by omega) (by omega) e rest v oi' oe' kind held a' g1 g2 hlev g3 g4 hfr hh
    -- a B that stands at j, whatever is open
    have onB : ∀ (j : Nat), i < j → l.drop j = 11 :: l.drop (j + 1) → ∀ (t : Ms) (a' : List Int × List Int), a'.1.length = l.length → a'.2.length = l.length → Res base l e rest v kind t j a' (LL N q l base e kind held k a'.1 a'.2 j 0 0) := by
      intro j hj hd t a' g1 g2
      obtain ⟨hjl, hxj, _⟩ := ix_drop hd
      obtain ⟨k', rfl⟩ : ∃ k', k = k' + 1 := ⟨k - 1, by omega⟩
      rcases hfr with ⟨f1, f2, f3, f4⟩ | hfr2
      · rw [LL_B hll hjl g1 g2 (by omega) (by omega) hxj f1]
        refine res_step hjl (ms0 base) (some (base, 11)) (by rw [hxj]; exact step_B base t _) ?_
        have hms : ms0 base = ⟨e :: rest, 0, 0, v⟩ := by rw [f2, f3, f4]; rfl
        rw [hms]
        exact ih (j + 1) (by omega) (by omega) k' q (by omega) (by omega) e rest v 0 0 kind held (a'.1.set j base, a'.2.set j 11) (by simp [g1]) (by simp [g2]) hlev (by omega) (by omega) (.inl ⟨f1, f2, f3, f4⟩) hh
      · have hk' : kind = 1 ∨ kind = 2 := hfr2.elim (fun h => .inl h.1) (fun h => .inr h.1)
        rw [LL_Bret hll hjl g1 g2 (by omega) (by omega) hxj hk']
        exact res_stop rfl (.inr (.inl ⟨_, hd, by omega⟩))
    have htop : topL (e :: rest) base = e.lev := rfl
    have hcls : ∀ d, clsO (e :: rest) d = if e.ovr = 0 then d else e.ovr := fun d => rfl
    by_cases c11 : c = 11
    · subst c11
      rcases hfr with ⟨f1, f2, f3, f4⟩ | hfr2
      · rw [LL_B hll hn h1 h2 (by omega) (by omega) hx f1]
        refine res_step hn (ms0 base) (some (base, 11)) (by rw [hx]; exact step_B base _ _) ?_
        have hms : ms0 base = ⟨e :: rest, 0, 0, v⟩ := by rw [f2, f3, f4]; rfl
        rw [hms]
        exact on (i + 1) (by omega) (by omega) 0 0 (a.1.set i base, a.2.set i 11) (by simp [h1]) (by simp [h2]) (by omega) (by omega)
      · have hk' : kind = 1 ∨ kind = 2 := hfr2.elim (fun h => .inl h.1) (fun h => .inr h.1)
        rw [LL_Bret hll hn h1 h2 (by omega) (by omega) hx hk']
        exact res_stop rfl (.inr (.inl ⟨_, hdr, by omega⟩))
    by_cases c23 : c = 23
    · subst c23
      by_cases hp : 0 < oi ∨ v = 0
      · rw [LL_P hll hn h1 h2 (by omega) (by omega) hx (hp.imp id fun h => by rw [hh, h]; rfl)]
        have hst : stepM base ⟨e :: rest, oi, oe, v⟩ 23 (rightw true 0 (l.drop (i + 1))) = (⟨e :: rest, oi - 1, oe, v⟩, some (e.lev, if e.ovr = 0 then 23 else e.ovr)) := by
          by_cases hoi : 0 < oi
          · rw [step_P0 base _ _ hoi]; rfl
          · have hv0 : v = 0 := by omega
            have ho0 : oi = 0 := by omega
            subst hv0; subst ho0
            rw [step_P2 base _ _ rfl rfl]; rfl
        refine res_step hn _ _ ((congrArg (fun z => stepM base _ z _) hx).trans hst) ?_
        exact on (i + 1) (by omega) (by omega) (oi - 1) oe (a.1.set i e.lev, a.2.set i (if e.ovr = 0 then 23 else e.ovr)) (by simp [h1]) (by simp [h2]) (by omega) (by omega)
      · rw [LL_Pret hll hn h1 h2 (by omega) (by omega) hx (by omega) (by rw [hh]; exact decide_eq_true (by omega))]
        exact res_stop rfl (.inr (.inr (.inl ⟨_, [], hdr, by omega, by show oi = 0; omega, rfl, fun y hy => (by cases hy), rfl⟩)))
    by_cases c19 : c = 19
    · subst c19
      by_cases hp : 0 < oi ∨ 0 < oe ∨ kind ≠ 1
      · rw [LL_F hll hn h1 h2 (by omega) (by omega) hx hp]
        have hst : stepM base ⟨e :: rest, oi, oe, v⟩ 19 (rightw true 0 (l.drop (i + 1))) = (⟨e :: rest, oi, (if oi = 0 then oe - 1 else oe), v⟩, none) := by
          rw [step_F]
          by_cases hoi : 0 < oi
          · rw [if_pos hoi, if_neg (show ¬ oi = 0 by omega)]
          · rw [if_neg hoi, if_pos (show oi = 0 by omega)]
            by_cases hoe : 0 < oe
            · rw [if_pos hoe]
            · rw [if_neg hoe]
              have hoe0 : oe - 1 = oe := by omega
              rw [hoe0]
              have hkk : kind ≠ 1 := by omega
              rcases hfr with ⟨f1, f2, f3, f4⟩ | ⟨f1, _⟩ | ⟨f1, f2, f3⟩
              · subst f3; rfl
              · exact absurd f1 hkk
              · cases rest with
                | nil => rfl
                | cons f r =>
                  show (if e.iso = true then _ else _, _) = _
                  rw [if_pos f2]
        refine res_step hn _ _ ((congrArg (fun z => stepM base _ z _) hx).trans hst) ?_
        exact on (i + 1) (by omega) (by omega) oi _ a h1 h2 (by omega) (by split <;> omega)
      · rw [LL_Fret hll hn h1 h2 (by omega) (by omega) hx (by omega) (by omega) (by omega)]
        refine res_stop rfl (.inr (.inr (.inr ⟨_, hdr, by omega, ?_⟩)))
        rw [show oi = 0 by omega, show oe = 0 by omega]
    by_cases ci : isInit c = true
    · rw [LL_I hll hn h1 h2 (by omega) (by omega) (by omega) hlev c hx ci]
      have hst := step_I base ⟨e :: rest, oi, oe, v⟩ c (rightw true 0 (l.drop (i + 1))) ci
      rw [htop, hcls] at hst
      simp only at hst
      obtain ⟨n, hnn⟩ : ∃ n, n = nextL e.lev (c == 21 || (c == 22 && rightw true 0 (l.drop (i + 1)))) := ⟨_, rfl⟩
      have hgt := nextL_gt e.lev (c == 21 || (c == 22 && rightw true 0 (l.drop (i + 1))))
      rw [← hnn] at hst hgt ⊢
      by_cases hp : oi = 0 ∧ oe = 0 ∧ n ≤ 125
      · rw [if_pos hp]
        rw [if_pos hp] at hst
        obtain ⟨rfl, rfl, hn125⟩ := hp
        obtain ⟨q, rfl⟩ : ∃ q', q = q' + 1 := ⟨q - 1, by omega⟩
        obtain ⟨a', ha'⟩ : ∃ a' : List Int × List Int, a' = (a.1.set i e.lev, a.2.set i (if e.ovr = 0 then c else e.ovr)) := ⟨_, rfl⟩
        have g1 : a'.1.length = l.length := by rw [ha']; simp [h1]
        have g2 : a'.2.length = l.length := by rw [ha']; simp [h2]
        obtain ⟨seg, suf, d1, d2, d3⟩ := ih (i + 1) (by omega) (by omega) N q (by omega) (by omega) ⟨n, 0, true⟩ (e :: rest) (v + 1) 0 0 2 true a' g1 g2 ⟨by show 0 ≤ n; omega, hn125⟩ (by omega) (by omega) (.inr (.inr ⟨rfl, rfl, by omega⟩)) (by simp)
        have hcall : rWithin_Q N (q + 1) l base (a.1.set i e.lev) (a.2.set i (if e.ovr = 0 then c else e.ovr)) ((i + 1 : Nat) : Int) n 0 2 true = some (((i + 1 + seg.length : Nat) : Int), (arrM base ⟨⟨n, 0, true⟩ :: e :: rest, 0, 0, v + 1⟩ (i + 1) seg suf a').1, (arrM base ⟨⟨n, 0, true⟩ :: e :: rest, 0, 0, v + 1⟩ (i + 1) seg suf a').2) := by
          rw [← d2, ha']; rfl
        rw [hcall]
        simp only [Option.bind_some]
        refine res_step hn _ _ ((congrArg (fun z => stepM base _ z _) hx).trans hst) ?_
        rw [show upd (some (e.lev, if e.ovr = 0 then c else e.ovr)) i a = a' from ha'.symm]
        refine res_glue seg suf d1 ?_
        have hlen := arrM_len base suf seg ⟨⟨n, 0, true⟩ :: e :: rest, 0, 0, v + 1⟩ (i + 1) a'
        generalize arrM base ⟨⟨n, 0, true⟩ :: e :: rest, 0, 0, v + 1⟩ (i + 1) seg suf a' = A at hlen ⊢
        generalize endM base ⟨⟨n, 0, true⟩ :: e :: rest, 0, 0, v + 1⟩ seg suf = t at d3 ⊢
        obtain ⟨j, hj⟩ : ∃ j, j = i + 1 + seg.length := ⟨_, rfl⟩
        have hdj : l.drop j = suf := by rw [hj, ← List.drop_drop, d1, List.drop_left]
        have hjl : j ≤ l.length := by have := congrArg List.length d1; rw [List.length_append, List.length_drop] at this; omega
        rw [← hj]
        have e1 : A.1.length = l.length := hlen.1.trans g1
        have e2 : A.2.length = l.length := hlen.2.trans g2
        rcases d3 with rfl | ⟨r, rfl, _⟩ | ⟨r, T, rfl, _, p2, p3, p4, p5⟩ | ⟨r, rfl, hk1, _⟩
        · have hjn : ¬ j < l.length := fun h => by rw [drop_e h] at hdj; cases hdj
          rw [if_neg (by omega)]
          simp only [Option.bind_some]
          obtain ⟨k, rfl⟩ : ∃ k', k = k' + 1 := ⟨k - 1, by omega⟩
          exact res_stop (by have := LL_end (N := N) (q := q + 1) (base := base) (e := e) (kind := kind) (held := held) (k := k) (lv := A.1) (cl := A.2) (oi := 0) (oe := 0) hjn; unfold LL at this; rw [show ((0 : Nat) : Int) = 0 from rfl] at this; rw [this]; rfl) (.inl hdj)
        · obtain ⟨hjn, hxj, hixj⟩ := ix_drop hdj
          rw [if_pos (by omega), hixj]
          simp only [Option.bind_some, show ¬ (11 : Int) = 23 by decide, if_false]
          have h3 := onB j (by omega) (by rw [hdj]; rw [drop_e hjn, hxj] at hdj; injection hdj with _ h; rw [h]) t A e1 e2
          exact h3
        · obtain ⟨hjn, hxj, hixj⟩ := ix_drop hdj
          rw [if_pos (by omega), hixj]
          simp only [Option.bind_some, if_true]
          rw [rStands_eq N l base A.1 A.2 j e.lev e.ovr hjn e1 e2, hxj, wne j (by omega)]
          simp only [Option.bind_some]
          refine res_step hjn ⟨e :: rest, 0, 0, v⟩ (some (e.lev, if e.ovr = 0 then 23 else e.ovr)) ?_ ?_
          · rw [hxj, step_P1 base t _ p2 (by omega), p3, popIso_T _ rfl _ T p4, p5]; rfl
          · exact on (j + 1) (by omega) (by omega) 0 0 (A.1.set j e.lev, A.2.set j (if e.ovr = 0 then 23 else e.ovr)) (by simp [e1]) (by simp [e2]) (by omega) (by omega)
        · omega
      · rw [if_neg hp]
        rw [if_neg hp] at hst
        refine res_step hn _ _ ((congrArg (fun z => stepM base _ z _) hx).trans hst) ?_
        exact on (i + 1) (by omega) (by omega) (oi + 1) oe (a.1.set i e.lev, a.2.set i (if e.ovr = 0 then c else e.ovr)) (by simp [h1]) (by simp [h2]) (by omega) (by omega)
    by_cases ce : isEmb c = true
    · rw [LL_E hll hn h1 h2 (by omega) (by omega) hlev c hx ce]
      have hst := step_E base ⟨e :: rest, oi, oe, v⟩ c (rightw true 0 (l.drop (i + 1))) ce
      rw [htop] at hst
      simp only at hst
      obtain ⟨n, hnn⟩ : ∃ n, n = nextL e.lev (c == 16 || c == 18) := ⟨_, rfl⟩
      have hgt := nextL_gt e.lev (c == 16 || c == 18)
      rw [← hnn] at hst hgt ⊢
      by_cases hp : oi = 0 ∧ oe = 0 ∧ n ≤ 125
      · rw [if_pos hp]
        rw [if_pos hp] at hst
        obtain ⟨rfl, rfl, hn125⟩ := hp
        obtain ⟨q, rfl⟩ : ∃ q', q = q' + 1 := ⟨q - 1, by omega⟩
        obtain ⟨seg, suf, d1, d2, d3⟩ := ih (i + 1) (by omega) (by omega) N q (by omega) (by omega) ⟨n, ovrOf c, false⟩ (e :: rest) v 0 0 1 held a h1 h2 ⟨by show 0 ≤ n; omega, hn125⟩ (by omega) (by omega) (.inr (.inl ⟨rfl, rfl, by simp⟩)) hh
        have hcall : rWithin_Q N (q + 1) l base a.1 a.2 ((i + 1 : Nat) : Int) n (ovrOf c) 1 held = some (((i + 1 + seg.length : Nat) : Int), (arrM base ⟨⟨n, ovrOf c, false⟩ :: e :: rest, 0, 0, v⟩ (i + 1) seg suf a).1, (arrM base ⟨⟨n, ovrOf c, false⟩ :: e :: rest, 0, 0, v⟩ (i + 1) seg suf a).2) := by
          rw [← d2]; rfl
        rw [hcall]
        simp only [Option.bind_some]
        refine res_step hn _ _ ((congrArg (fun z => stepM base _ z _) hx).trans hst) ?_
        rw [show upd none i a = a from rfl]
        refine res_glue seg suf d1 ?_
        have hlen := arrM_len base suf seg ⟨⟨n, ovrOf c, false⟩ :: e :: rest, 0, 0, v⟩ (i + 1) a
        generalize arrM base ⟨⟨n, ovrOf c, false⟩ :: e :: rest, 0, 0, v⟩ (i + 1) seg suf a = A at hlen ⊢
        generalize endM base ⟨⟨n, ovrOf c, false⟩ :: e :: rest, 0, 0, v⟩ seg suf = t at d3 ⊢
        obtain ⟨j, hj⟩ : ∃ j, j = i + 1 + seg.length := ⟨_, rfl⟩
        have hdj : l.drop j = suf := by rw [hj, ← List.drop_drop, d1, List.drop_left]
        have hjl : j ≤ l.length := by have := congrArg List.length d1; rw [List.length_append, List.length_drop] at this; omega
        rw [← hj]
        have e1 : A.1.length = l.length := hlen.1.trans h1
        have e2 : A.2.length = l.length := hlen.2.trans h2
        rcases d3 with rfl | ⟨r, rfl, _⟩ | ⟨r, T, rfl, p1, p2, p3, p4, p5⟩ | ⟨r, rfl, _, rfl⟩
        · have hjn : ¬ j < l.length := fun h => by rw [drop_e h] at hdj; cases hdj
          rw [if_neg (by omega)]
          obtain ⟨k, rfl⟩ : ∃ k', k = k' + 1 := ⟨k - 1, by omega⟩
          exact res_stop (by have := LL_end (N := N) (q := q + 1) (base := base) (e := e) (kind := kind) (held := held) (k := k) (lv := A.1) (cl := A.2) (oi := 0) (oe := 0) hjn; unfold LL at this; rw [show ((0 : Nat) : Int) = 0 from rfl] at this; rw [this]; rfl) (.inl hdj)
        · obtain ⟨hjn, hxj, hixj⟩ := ix_drop hdj
          rw [if_pos (by omega), hixj]
          simp only [Option.bind_some, show ¬ (11 : Int) = 19 by decide, if_false]
          have h3 := onB j (by omega) (by rw [hdj]; rw [drop_e hjn, hxj] at hdj; injection hdj with _ h; rw [h]) t A e1 e2
          exact h3
        · obtain ⟨hjn, hxj, hixj⟩ := ix_drop hdj
          rw [if_pos (by omega), hixj]
          simp only [Option.bind_some, show ¬ (23 : Int) = 19 by decide, if_false]
          obtain ⟨k, rfl⟩ : ∃ k', k = k' + 1 := ⟨k - 1, by omega⟩
          have h3 := LL_Pret (N := N) (q := q + 1) (base := base) (e := e) (kind := kind) (held := held) (k := k) (oi := 0) (oe := 0) hll hjn e1 e2 (by omega) (by omega) hxj rfl (by rw [hh]; exact decide_eq_true p1)
          unfold LL at h3
          rw [show ((0 : Nat) : Int) = 0 from rfl] at h3
          rw [h3]
          refine res_stop rfl (.inr (.inr (.inl ⟨_, T ++ [⟨n, ovrOf c, false⟩], hdj, p1, p2, by rw [p3]; simp, fun y hy => ?_, p5⟩)))
          rcases List.mem_append.1 hy with hy | hy
          · exact p4 y hy
          · rw [List.mem_singleton.1 hy]
        · obtain ⟨hjn, hxj, hixj⟩ := ix_drop hdj
          rw [if_pos (by omega), hixj]
          simp only [Option.bind_some, if_true]
          rw [wne j (by omega)]
          refine res_step hjn ⟨e :: rest, 0, 0, v⟩ none ?_ ?_
          · rw [hxj]; rfl
          · exact on (j + 1) (by omega) (by omega) 0 0 A e1 e2 (by omega) (by omega)
      · rw [if_neg hp]
        rw [if_neg hp] at hst
        have hst' : stepM base ⟨e :: rest, oi, oe, v⟩ c (rightw true 0 (l.drop (i + 1))) = (⟨e :: rest, oi, (if oi = 0 then oe + 1 else oe), v⟩, none) := by
          rw [hst]
          by_cases hz : oi = 0
          · rw [if_pos hz, if_pos hz]
          · rw [if_neg hz, if_neg hz]
        refine res_step hn _ _ ((congrArg (fun z => stepM base _ z _) hx).trans hst') ?_
        exact on (i + 1) (by omega) (by omega) oi _ a h1 h2 (by omega) (by split <;> omega)
    by_cases c10 : c = 10
    · subst c10
      rw [LL_N hll hn h1 h2 (by omega) (by omega) hx]
      refine res_step hn ⟨e :: rest, oi, oe, v⟩ none (by rw [hx]; rfl) ?_
      exact on (i + 1) (by omega) (by omega) oi oe a h1 h2 (by omega) (by omega)
    · have nr : isRem c = false := by
        rw [Bool.eq_false_iff]; intro h; rw [isRem_iff] at h; rw [isEmb_iff] at ce; omega
      have ni : isInit c = false := by rw [Bool.eq_false_iff]; exact ci
      rw [LL_O hll hn h1 h2 (by omega) (by omega) c hx c11 c23 nr ni]
      refine res_step hn ⟨e :: rest, oi, oe, v⟩ (some (e.lev, if e.ovr = 0 then c else e.ovr)) (by rw [hx, step_O base _ c _ c11 c23 nr ni]; rfl) ?_
      exact on (i + 1) (by omega) (by omega) oi oe (a.1.set i e.lev, a.2.set i (if e.ovr = 0 then c else e.ovr)) (by simp [h1]) (by simp [h2]) (by omega) (by omega)
end Go.Proofs.Ytjndolnjhbgflaa
