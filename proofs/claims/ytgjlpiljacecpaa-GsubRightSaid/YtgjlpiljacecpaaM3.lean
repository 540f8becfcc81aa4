/-
  Substitutions: the subtables of the types 4 and 6.
-/
import Derived.Test.YtgjlpiljacecpaaM2
import Derived.Test.YtgjlpiljacecpaaHD
namespace Go.Proofs.Ytgjlpiljacecpaa
open Go Go.RowKit
set_option linter.unusedVariables false
set_option linter.unusedSectionVars false
set_option linter.unusedSimpArgs false
section
variable (N : Nat) (b : List Int) (g lk : Int) (hU : U8 b) (hb : b.length ≤ 3000) (hN : 1000000 < N)
include hU hb hN
def LigOK (g f : Int) (x : List Int × Int) : Prop := 1 ≤ x.1.length ∧ x.1.length ≤ 65535 ∧ x.1.headD 0 = f ∧ (∀ y ∈ x.1, InG g y) ∧ InG g x.2
theorem gligature_good (c p f : Int) (hp : -1000000 ≤ p ∧ p ≤ 2000000) (hf : InG g f) : PanG (gLigature N g lk c b false p f) fun r => LigOK g f (r.1, r.2.1) ∧ r.2.2.2 = false := by
  unfold gLigature
  rw [w64 (x := p + 2) (by omega) (by omega), w64 (x := p + 4) (by omega) (by omega)]
  refine good_bind (gsize_good N b g lk hU hb hN c _) ?_ (fun x => ⟨_, rfl⟩)
  rintro ⟨x, q⟩ ⟨e, h2, h3⟩
  injection e with e1 e2
  subst e1; subst e2
  have hr := rdv_in hU (p + 2)
  refine good_bind (gcount_good N b g lk hU hb hN c _ _) ?_ (fun x => ⟨_, rfl⟩)
  rintro c2 ⟨_, h4⟩
  refine good_bind (gwords_good N b g lk hU hb hN c2 _ _ (by omega)) ?_ (fun x => ⟨_, rfl⟩)
  rintro ⟨m, q⟩ ⟨e, h5⟩
  injection e with e1 e2
  subst e2
  have hm : U16 m := by rw [e1]; exact wds_u16 hU _ _
  have hml : m.length = 1 := by rw [e1, wds_len]; rfl
  refine good_bind (gright_good N b g lk hb hN c2 false m (by omega) hm) ?_ (fun x => ⟨_, rfl⟩)
  intro _ h6
  show PanG ((gWords N g lk c2 b false (p + 4) (IntKind.i64.wrap (rdv b (p + 2) - 1))).bind _) _
  rw [w64 (x := rdv b (p + 2) - 1) (by omega) (by omega)]
  refine good_bind (gwords_good N b g lk hU hb hN c2 _ _ (by omega)) ?_ (fun x => ⟨_, rfl⟩)
  rintro ⟨o, q⟩ ⟨e, h7⟩
  injection e with e3 e2
  subst e2
  have ho : U16 o := by rw [e3]; exact wds_u16 hU _ _
  have hol : o.length = (rdv b (p + 2) - 1).toNat := by rw [e3, wds_len]
  refine good_bind (gright_good N b g lk hb hN c2 false o (by omega) ho) ?_ (fun x => ⟨_, rfl⟩)
  intro _ h8
  show PanG ((ix m (0 : Int)).bind _) _
  rw [head_ix m (by omega), Option.bind_some, apx_eq (by simp; omega), Option.bind_some]
  refine good_ok ⟨⟨by simp, by simp; omega, rfl, ?_, ?_⟩, rfl⟩
  · intro y hy
    rcases List.mem_cons.1 hy with rfl | hy
    · exact hf
    · exact ⟨(ho y hy).1, h8 y hy, (ho y hy).2⟩
  · cases m with
    | nil => simp at hml
    | cons a t => exact ⟨(hm a (by simp)).1, h6 a (by simp), (hm a (by simp)).2⟩
theorem gligs_in (p f s : Int) (l : List Int) (hp : 0 ≤ p ∧ p ≤ 800000) (hs : 0 ≤ s ∧ s ≤ 65535) (hf : InG g f) (hl : l.length ≤ 1500) (hL : U16 l) : ∀ (k i : Nat) (acc : List (List Int × Int)) (c : Int), l.length - i < k → i ≤ l.length → acc.length + (l.length - i) ≤ 100000000 →
    PanC (gLigatures_L2 N g lk b p f s l k acc c false (i : Int)) fun r => r.2.2 = false ∧ ∃ t, r.1 = acc ++ t ∧ t.length = l.length - i ∧ ∀ x ∈ t, LigOK g f x
  | 0, i, _, _, h, _, _ => absurd h (Nat.not_lt_zero _)
  | k + 1, i, acc, c, h, hi, ha => by
    unfold gLigatures_L2
    by_cases hx : i < l.length
    · have h1 := hL.at i
      rw [if_pos (by omega), ix_nat hx, Option.bind_some, w64 (x := s) (by omega) (by omega), w64 (x := l.getD i 0) (by omega) (by omega), w64 (x := p + s) (by omega) (by omega), w64 (x := p + s + l.getD i 0) (by omega) (by omega)]
      refine goodc_bind (gligature_good N b g lk hU hb hN c _ f (by omega) hf) ?_ (fun x => ⟨_, rfl⟩)
      rintro ⟨x1, x2, c2, q⟩ ⟨h2, e⟩
      simp only at h2 e
      subst e
      show PanC ((apg acc _).bind _) _
      rw [apg_eq (by simp; omega), Option.bind_some, wp1 i (by omega)]
      refine goodc_mono (gligs_in p f s l hp hs hf hl hL k (i + 1) _ c2 (by omega) (by omega) (by simp; omega)) ?_
      rintro ⟨r1, r2, r3⟩ ⟨h3, t, h4, h5, h6⟩
      refine ⟨h3, (x1, x2) :: t, by simpa using h4, by simp; omega, fun x hx => ?_⟩
      rcases List.mem_cons.1 hx with rfl | hx
      · exact h2
      · exact h6 x hx
    · rw [if_neg (by omega)]
      exact goodc_go ⟨rfl, [], by simp, by simp; omega, fun x hx => by cases hx⟩
def LigsTo (g : Int) (acc : List (List Int × Int)) (f : Int) : Prop := acc.Pairwise (fun x y => x.1.headD 0 ≤ y.1.headD 0) ∧ ∀ x ∈ acc, x.1.headD 0 ≤ f ∧ 1 ≤ x.1.length ∧ x.1.length ≤ 65535 ∧ (∀ y ∈ x.1, InG g y) ∧ InG g x.2
omit hU hb hN in
theorem ligsTo_app {acc t : List (List Int × Int)} {e f : Int} (h : LigsTo g acc e) (hef : e ≤ f) (ht : ∀ x ∈ t, LigOK g f x) : LigsTo g (acc ++ t) f := by
  refine ⟨List.pairwise_append.2 ⟨h.1, ?_, fun x hx y hy => ?_⟩, fun x hx => ?_⟩
  · exact List.pairwise_of_forall_mem_list (fun x hx y hy => by rw [(ht x hx).2.2.1, (ht y hy).2.2.1]; exact Int.le_refl _)
  · rw [(ht y hy).2.2.1]; exact Int.le_trans (h.2 x hx).1 hef
  · rcases List.mem_append.1 hx with hx | hx
    · exact ⟨Int.le_trans (h.2 x hx).1 hef, (h.2 x hx).2⟩
    · obtain ⟨h1, h2, h3, h4⟩ := ht x hx
      exact ⟨by rw [h3]; exact Int.le_refl _, h1, h2, h4⟩
theorem gligs_out (p : Int) (l m : List Int) (hp : 0 ≤ p ∧ p ≤ 800000) (hl : RiseL g l) (hm : U16 m) (hlm : l.length = m.length) (hl2 : l.length ≤ 1500) : ∀ (k i : Nat) (acc : List (List Int × Int)) (c : Int), l.length - i < k → i ≤ l.length → acc.length ≤ 1500 * i → i ≤ acc.length → LigsTo g acc (if i = 0 then -1 else l.getD (i - 1) 0) →
    PanC (gLigatures_L1 N g lk b p l m k acc c false (i : Int)) fun r => r.2.2 = false ∧ r.1.length ≤ 1500 * l.length ∧ l.length ≤ r.1.length ∧ ∃ f, LigsTo g r.1 f
  | 0, i, _, _, h, _, _, _, _ => absurd h (Nat.not_lt_zero _)
  | k + 1, i, acc, c, h, hi, ha, ha2, hacc => by
    unfold gLigatures_L1
    by_cases hx : i < l.length
    · have h1 := hm.at i
      have hf : InG g (l.getD i 0) := hl.2.1 _ (getD_mem hx)
      have hef : (if i = 0 then -1 else l.getD (i - 1) 0) ≤ l.getD i 0 := by
        split
        · have := hf.1; omega
        · rename_i h0
          have h2 := (List.pairwise_iff_getElem.1 hl.1) (i - 1) i (by omega) hx (by omega)
          rw [show l.getD (i - 1) 0 = l[i - 1]'(by omega) by simp [show i - 1 < l.length by omega], show l.getD i 0 = l[i] by simp [hx]]
          omega
      rw [if_pos (by omega), ix_nat hx, Option.bind_some, ix_nat (by omega), Option.bind_some]
      refine goodc_then (P := fun r => r.2.2 = false ∧ ∃ t, r.1 = acc ++ t ∧ 1 ≤ t.length ∧ t.length ≤ 1500 ∧ ∀ x ∈ t, LigOK g (l.getD i 0) x) ?_ ?_ (fun x => ⟨_, rfl⟩)
      · rw [w64 (x := m.getD i 0) (by omega) (by omega), w64 (x := p + m.getD i 0) (by omega) (by omega)]
        refine goodc_bind (gsize_good N b g lk hU hb hN c _) ?_ (fun x => ⟨_, rfl⟩)
        rintro ⟨x, q⟩ ⟨e, h2, h3⟩
        injection e with e1 e2
        subst e1; subst e2
        have hr := rdv_in hU (p + m.getD i 0)
        show PanC ((gWords N g lk c b false (IntKind.i64.wrap (p + m.getD i 0 + 2)) (rdv b (p + m.getD i 0))).bind _) _
        rw [w64 (x := p + m.getD i 0 + 2) (by omega) (by omega)]
        refine goodc_bind (gwords_good N b g lk hU hb hN c _ _ (by omega)) ?_ (fun x => ⟨_, rfl⟩)
        rintro ⟨o, q⟩ ⟨e, h5⟩
        injection e with e1 e2
        subst e2
        have ho : U16 o := by rw [e1]; exact wds_u16 hU _ _
        have hol : o.length = (rdv b (p + m.getD i 0)).toNat := by rw [e1, wds_len]
        have h6 : 0 ≤ p + m.getD i 0 + 2 ∧ 0 ≤ rdv b (p + m.getD i 0) ∧ p + m.getD i 0 + 2 + 2 * rdv b (p + m.getD i 0) ≤ (b.length : Int) := of_decide_eq_true h5
        refine goodc_mono (gligs_in N b g lk hU hb hN p (l.getD i 0) (m.getD i 0) o hp h1 hf (by omega) ho N 0 acc c (by omega) (Nat.zero_le _) (by omega)) ?_
        rintro ⟨r1, r2, r3⟩ ⟨h7, t, h8, h9, h10⟩
        exact ⟨h7, t, h8, by omega, by omega, h10⟩
      · rintro ⟨r1, c2, q⟩ ⟨e, t, e1, h3, h4, h5⟩
        simp only at e e1
        subst e; subst e1
        show PanC (gLigatures_L1 N g lk b p l m k (acc ++ t) c2 false (IntKind.i64.wrap ((i : Int) + 1))) _
        rw [wp1 i (by omega)]
        refine gligs_out p l m hp hl hm hlm hl2 k (i + 1) _ c2 (by omega) (by omega) (by rw [List.length_append]; omega) (by rw [List.length_append]; omega) ?_
        rw [if_neg (by omega), show i + 1 - 1 = i by omega]
        exact ligsTo_app g hacc hef h5
    · rw [if_neg (by omega)]
      exact goodc_go ⟨rfl, by show acc.length ≤ _; have : i = l.length := by omega
                              omega, by show _ ≤ acc.length; omega, _, hacc⟩
theorem gligatures_good (c p : Int) (hp : 0 ≤ p ∧ p ≤ 800000) : PanG (gLigatures N g lk c b false p) fun r => ∃ s c', r = ([], [], s, [], [], [], [], c', false) ∧ LigsOK g s := by
  unfold gLigatures
  refine good_bind (gword_good N b g lk hU hb hN c p) ?_ (fun x => ⟨_, rfl⟩)
  rintro ⟨x, q⟩ ⟨e, h⟩
  injection e with e1 e2
  subst e2
  refine good_bind (require_good N _) ?_ (fun x => ⟨_, rfl⟩)
  intro _ _
  refine good_bind (geach_good N b g lk hU hb hN c p (by omega)) ?_ (fun x => ⟨_, rfl⟩)
  rintro ⟨l, m, c', q⟩ ⟨e1, e2, e3, h2, h3, e4, h4, e5⟩
  simp only at e1 e2 e3 h2 h3 e4 h4 e5
  subst e5
  have hm : U16 m := by rw [e2]; exact wds_u16 hU _ _
  have hml : m.length = (rdv b (p + 4)).toNat := by rw [e2, wds_len]
  have h6 : 0 ≤ p + 6 ∧ 0 ≤ rdv b (p + 4) ∧ p + 6 + 2 * rdv b (p + 4) ≤ (b.length : Int) := of_decide_eq_true h3
  refine goodc_end (gligs_out N b g lk hU hb hN p l m hp h2 hm e3 (by omega) N 0 [] c' (by omega) (Nat.zero_le _) (by simp) (by simp) ⟨List.Pairwise.nil, fun x hx => by cases hx⟩) ?_ (fun x => ⟨_, rfl⟩)
  rintro ⟨r, c2, q⟩ ⟨e, h7, h8, f, h9⟩
  simp only at e h7 h8 h9
  subst e
  have h10 := h2.2.2
  exact good_ok ⟨_, _, rfl, h9.1, fun x hx => (h9.2 x hx).2, by omega, by omega⟩
theorem gsets_loop (p : Int) (l : List Int) (hp : 0 ≤ p ∧ p ≤ 800000) (hl : l.length ≤ 65535) (hL : U16 l) : ∀ (k i : Nat) (c : Int) (acc : List (List Int)), l.length - i < k → i ≤ l.length → acc.length = i → (∀ x ∈ acc, RiseL g x) →
    PanC (gSets_L1 N g lk b p l k c false acc (i : Int)) fun r => r.2.1 = false ∧ r.2.2.length = l.length ∧ ∀ x ∈ r.2.2, RiseL g x
  | 0, i, _, _, h, _, _, _ => absurd h (Nat.not_lt_zero _)
  | k + 1, i, c, acc, h, hi, ha, hacc => by
    unfold gSets_L1
    by_cases hx : i < l.length
    · have h1 := hL.at i
      rw [if_pos (by omega), ix_nat hx, Option.bind_some, w64 (x := l.getD i 0) (by omega) (by omega), w64 (x := p + l.getD i 0) (by omega) (by omega)]
      refine goodc_bind (gcov_good N b g lk hU hb hN c _ (by omega)) ?_ (fun x => ⟨_, rfl⟩)
      rintro ⟨o, c2, q⟩ ⟨e, h2, h3⟩
      injection e with e1 e2
      injection e2 with e2 e3
      subst e1; subst e2; subst e3
      show PanC ((apg acc _).bind _) _
      rw [apg_eq (by simp; omega), Option.bind_some, wp1 i (by omega)]
      refine gsets_loop p l hp hl hL k (i + 1) _ _ (by omega) (by omega) (by simp; omega) ?_
      intro x hx
      rcases List.mem_append.1 hx with hx | hx
      · exact hacc x hx
      · rw [List.mem_singleton.1 hx]; exact h2
    · rw [if_neg (by omega)]
      exact goodc_go ⟨rfl, by show acc.length = _; omega, hacc⟩
theorem gsets_good (c p t : Int) (hp : 0 ≤ p ∧ p ≤ 800000) (ht : 0 ≤ t ∧ t ≤ 900000) : PanG (gSets N g lk c b false p t) fun r => SetsOK g r.1 ∧ r.2.1 = t + 2 + 2 * rdv b t ∧ r.2.2.2 = false ∧ r.2.1 ≤ 3000 := by
  unfold gSets
  refine good_bind (glist_good N b g lk hU hb hN c t (by omega)) ?_ (fun x => ⟨_, rfl⟩)
  rintro ⟨l, q⟩ ⟨e, h2, h3⟩
  injection e with e1 e2
  subst e2
  have hr := rdv_in hU t
  have hL : U16 l := by rw [e1]; exact wds_u16 hU _ _
  have hl : l.length = (rdv b t).toNat := by rw [e1, wds_len]
  have h6 : 0 ≤ t + 2 ∧ 0 ≤ rdv b t ∧ t + 2 + 2 * rdv b t ≤ (b.length : Int) := of_decide_eq_true h2
  refine goodc_end (gsets_loop N b g lk hU hb hN p l hp (by omega) hL N 0 c [] (by omega) (Nat.zero_le _) rfl (fun x hx => by cases hx)) ?_ (fun x => ⟨_, rfl⟩)
  rintro ⟨c2, q, r⟩ ⟨e, h7, h8⟩
  simp only at e h7 h8
  subst e
  refine good_ok ⟨⟨h8, by show r.length ≤ _; omega⟩, ?_, rfl, ?_⟩
  · show IntKind.i64.wrap (IntKind.i64.wrap (t + 2) + IntKind.i64.wrap ((2 : Int) * ((l.length : Nat) : Int))) = _
    rw [w64 (x := t + 2) (by omega) (by omega), w64 (x := (2 : Int) * ((l.length : Nat) : Int)) (by omega) (by omega), w64 (by omega) (by omega)]
    omega
  · show IntKind.i64.wrap (IntKind.i64.wrap (t + 2) + IntKind.i64.wrap ((2 : Int) * ((l.length : Nat) : Int))) ≤ _
    rw [w64 (x := t + 2) (by omega) (by omega), w64 (x := (2 : Int) * ((l.length : Nat) : Int)) (by omega) (by omega), w64 (by omega) (by omega)]
    omega
omit hU hb in
theorem grec_loop (n : Int) (l : List Int) (m : Nat) (z : List (Int × Int)) (hz : z.length = m) (hl : l.length = 2 * m) (hm : m ≤ 65535) (hL : U16 l) : ∀ (k i : Nat) (r : List (Int × Int)), m - i < k → i ≤ m → r.length = m → (∀ j (h : j < r.length), j < i → 0 ≤ r[j].1 ∧ r[j].1 < n ∧ 0 ≤ r[j].2 ∧ r[j].2 < lk) →
    PanC (gRecords_L1 N lk n false l z k r (i : Int)) fun r => r.length = m ∧ ∀ x ∈ r, 0 ≤ x.1 ∧ x.1 < n ∧ 0 ≤ x.2 ∧ x.2 < lk
  | 0, i, _, h, _, _, _ => absurd h (Nat.not_lt_zero _)
  | k + 1, i, r, h, hi, hr, hall => by
    unfold gRecords_L1
    by_cases hx : i < m
    · have h1 := hL.at (2 * i)
      have h2 := hL.at (2 * i + 1)
      rw [if_pos (by omega), w64 (x := (2 : Int) * (i : Int)) (by omega) (by omega), w64 (x := (2 : Int) * (i : Int) + 1) (by omega) (by omega), show (2 : Int) * (i : Int) = ((2 * i : Nat) : Int) by omega, ix_nat (by omega), Option.bind_some,
        show ((2 * i : Nat) : Int) + 1 = ((2 * i + 1 : Nat) : Int) by omega, ix_nat (by omega), Option.bind_some, ixg_eq (by omega), Option.bind_some, setg_eq (by omega), Option.bind_some, w64 (x := l.getD (2 * i) 0) (by omega) (by omega), w64 (x := l.getD (2 * i + 1) 0) (by omega) (by omega), ixg_eq (by simp; omega), Option.bind_some]
      have hg : (r.set i (l.getD (2 * i) 0, l.getD (2 * i + 1) 0))[i]'(by simp; omega) = (l.getD (2 * i) 0, l.getD (2 * i + 1) 0) := by simp
      rw [hg]
      show PanC (if l.getD (2 * i) 0 < n then _ else _) _
      split
      · rename_i h3
        simp only [Option.bind_some]
        refine goodc_bind (require_good N _) ?_ (fun x => ⟨_, rfl⟩)
        intro _ h4
        have h4 := of_decide_eq_true h4
        show PanC (gRecords_L1 N lk n false l z k _ (IntKind.i64.wrap ((i : Int) + 1))) _
        rw [wp1 i (by omega)]
        refine grec_loop n l m z hz hl hm hL k (i + 1) _ (by omega) (by omega) (by simp; omega) ?_
        intro j hj hji
        by_cases hij : i = j
        · subst hij
          simp only [List.getElem_set_self]
          exact ⟨h1.1, h3, h2.1, h4⟩
        · rw [List.getElem_set_ne hij]
          exact hall j (by simpa using hj) (by omega)
      · exact goodc_bind (require_good N _) (fun _ h4 => by cases h4) (fun x => ⟨_, rfl⟩)
    · rw [if_neg (by omega)]
      refine goodc_go ⟨hr, fun x hx => ?_⟩
      obtain ⟨j, hj, rfl⟩ := List.getElem_of_mem hx
      exact hall j hj (by omega)
theorem grecords_good (c p n : Int) (hp : 0 ≤ p ∧ p ≤ 800000) : PanG (gRecords N g lk c b false p n) fun r => RecsOK n lk r.1 ∧ r.2 = false := by
  unfold gRecords
  refine good_bind (gword_good N b g lk hU hb hN c p) ?_ (fun x => ⟨_, rfl⟩)
  rintro ⟨x, q⟩ ⟨e, h⟩
  injection e with e1 e2
  subst e1; subst e2
  have hr := rdv_in hU p
  show PanG ((gWords N g lk c b false (IntKind.i64.wrap (p + 2)) (IntKind.i64.wrap ((2 : Int) * (IntKind.i64.wrap (rdv b p))))).bind _) _
  rw [w64 (x := p + 2) (by omega) (by omega), w64 (x := rdv b p) (by omega) (by omega), w64 (x := (2 : Int) * rdv b p) (by omega) (by omega)]
  refine good_bind (gwords_good N b g lk hU hb hN c _ _ (by omega)) ?_ (fun x => ⟨_, rfl⟩)
  rintro ⟨l, q⟩ ⟨e, h5⟩
  injection e with e1 e2
  subst e2
  have hL : U16 l := by rw [e1]; exact wds_u16 hU _ _
  have hl : l.length = 2 * (rdv b p).toNat := by rw [e1, wds_len]; omega
  obtain ⟨m, hm⟩ : ∃ m, m = (rdv b p).toNat := ⟨_, rfl⟩
  rw [← hm] at hl
  show PanG ((mkg (IntKind.i64.wrap (Int.tdiv ((l.length : Nat) : Int) 2)) ((0, 0) : Int × Int)).bind _) _
  rw [hl, Int.tdiv_eq_ediv_of_nonneg (by omega), w64 (by omega) (by omega), show ((2 * m : Nat) : Int) / 2 = ((m : Nat) : Int) by omega, mkg0 _ _ (by omega), Option.bind_some]
  refine goodc_end (grec_loop N lk hN n l m _ (by simp) hl (by omega) hL N 0 _ (by omega) (Nat.zero_le _) (by simp) (fun j _ h => absurd h (Nat.not_lt_zero _))) ?_ (fun x => ⟨_, rfl⟩)
  rintro r ⟨h1, h2⟩
  exact good_ok ⟨⟨h2, by show r.length ≤ _; omega⟩, rfl⟩
theorem gchained_good (c p : Int) (hp : 0 ≤ p ∧ p ≤ 800000) : PanG (gChained N g lk c b false p) fun r => ∃ x y z s c', r = ([], [], [], x, y, z, s, c', false) ∧ SetsOK g x ∧ SetsOK g y ∧ SetsOK g z ∧ 1 ≤ y.length ∧ RecsOK (y.length : Nat) lk s := by
  unfold gChained
  refine good_bind (gword_good N b g lk hU hb hN c p) ?_ (fun x => ⟨_, rfl⟩)
  rintro ⟨x, q⟩ ⟨e, h⟩
  injection e with e1 e2
  subst e2
  refine good_bind (require_good N _) ?_ (fun x => ⟨_, rfl⟩)
  intro _ _
  show PanG ((gSets N g lk c b false p (IntKind.i64.wrap (p + 2))).bind _) _
  rw [w64 (x := p + 2) (by omega) (by omega)]
  refine good_bind (gsets_good N b g lk hU hb hN c p _ hp (by omega)) ?_ (fun x => ⟨_, rfl⟩)
  rintro ⟨x1, t1, c1, q⟩ ⟨h1, e1, e2, b1⟩
  simp only at h1 e1 e2 b1
  subst e2
  have hr1 := rdv_in hU (p + 2)
  refine good_bind (gsets_good N b g lk hU hb hN c1 p t1 hp (by omega)) ?_ (fun x => ⟨_, rfl⟩)
  rintro ⟨x2, t2, c2, q⟩ ⟨h2, e2, e3, b2⟩
  simp only at h2 e2 e3 b2
  subst e3
  have hr2 := rdv_in hU t1
  refine good_bind (gsets_good N b g lk hU hb hN c2 p t2 hp (by omega)) ?_ (fun x => ⟨_, rfl⟩)
  rintro ⟨x3, t3, c3, q⟩ ⟨h3, e3, e4, b3⟩
  simp only at h3 e3 e4 b3
  subst e4
  have hr3 := rdv_in hU t2
  refine good_bind (require_good N _) ?_ (fun x => ⟨_, rfl⟩)
  intro _ h4
  have h4 := of_decide_eq_true h4
  refine good_bind (grecords_good N b g lk hU hb hN c3 t3 _ (by omega)) ?_ (fun x => ⟨_, rfl⟩)
  rintro ⟨s, q⟩ ⟨h5, e5⟩
  simp only at h5 e5
  subst e5
  exact good_ok ⟨_, _, _, _, _, rfl, h1, h2, h3, by omega, h5⟩
end
end Go.Proofs.Ytgjlpiljacecpaa
