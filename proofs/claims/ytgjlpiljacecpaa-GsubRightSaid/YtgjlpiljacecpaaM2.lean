/-
  Substitutions: the subtables of the types 1 to 3.
-/
import Derived.Test.YtgjlpiljacecpaaM1
import Derived.Test.YtgjlpiljacecpaaHB
namespace Go.Proofs.Ytgjlpiljacecpaa
open Go Go.RowKit
set_option linter.unusedVariables false
set_option linter.unusedSectionVars false
set_option linter.unusedSimpArgs false
abbrev TSub := List (Int × Int) × List (Int × List Int) × List (List Int × Int) × List (List Int) × List (List Int) × List (List Int) × List (Int × Int)
def InG (g x : Int) : Prop := 0 ≤ x ∧ x < g ∧ x ≤ 65535
def PairsOK (g : Int) (l : List (Int × Int)) : Prop := l.Pairwise (fun x y => x.1 < y.1) ∧ (∀ x ∈ l, InG g x.1 ∧ InG g x.2) ∧ 1 ≤ l.length ∧ l.length ≤ 65535
def ManysOK (g : Int) (l : List (Int × List Int)) : Prop := l.Pairwise (fun x y => x.1 < y.1) ∧ (∀ x ∈ l, InG g x.1 ∧ 1 ≤ x.2.length ∧ x.2.length ≤ 65535 ∧ ∀ y ∈ x.2, InG g y) ∧ 1 ≤ l.length ∧ l.length ≤ 65535
def LigsOK (g : Int) (l : List (List Int × Int)) : Prop := l.Pairwise (fun x y => x.1.headD 0 ≤ y.1.headD 0) ∧ (∀ x ∈ l, 1 ≤ x.1.length ∧ x.1.length ≤ 65535 ∧ (∀ y ∈ x.1, InG g y) ∧ InG g x.2) ∧ 1 ≤ l.length ∧ l.length ≤ 100000000
def SetsOK (g : Int) (l : List (List Int)) : Prop := (∀ x ∈ l, RiseL g x) ∧ l.length ≤ 65535
def RecsOK (n lk : Int) (l : List (Int × Int)) : Prop := (∀ x ∈ l, 0 ≤ x.1 ∧ x.1 < n ∧ 0 ≤ x.2 ∧ x.2 < lk) ∧ l.length ≤ 65535
def SubOK (g lk kind : Int) (s : TSub) : Prop :=
  (∃ p, (kind = 1 ∨ kind = 3) ∧ s = (p, [], [], [], [], [], []) ∧ PairsOK g p) ∨ (∃ m, kind = 2 ∧ s = ([], m, [], [], [], [], []) ∧ ManysOK g m) ∨
  (∃ l, kind = 4 ∧ s = ([], [], l, [], [], [], []) ∧ LigsOK g l) ∨ (∃ x y z r, kind = 6 ∧ s = ([], [], [], x, y, z, r) ∧ SetsOK g x ∧ SetsOK g y ∧ SetsOK g z ∧ 1 ≤ y.length ∧ RecsOK (y.length : Nat) lk r)
theorem fill_step {α β : Type} (p : List α) (f : α → β) (z : β) (i : Nat) (h : i < p.length) : ((p.take i).map f ++ List.replicate (p.length - i) z).set i (f p[i]) = (p.take (i + 1)).map f ++ List.replicate (p.length - (i + 1)) z := by
  rw [show p.length - i = (p.length - (i + 1)) + 1 by omega, List.replicate_succ, List.set_append_right _ _ (by rw [List.length_map, List.length_take]; omega), List.length_map, List.length_take, show i - min i p.length = 0 by omega, List.set_cons_zero, List.take_succ_eq_append_getElem h, List.map_append]
  simp
theorem fill_len {α β : Type} (p : List α) (f : α → β) (z : β) (i : Nat) (h : i ≤ p.length) : ((p.take i).map f ++ List.replicate (p.length - i) z).length = p.length := by
  rw [List.length_append, List.length_map, List.length_take, List.length_replicate]; omega
theorem fill_end {α β : Type} (p : List α) (f : α → β) (z : β) (i : Nat) (h : p.length ≤ i) : (p.take i).map f ++ List.replicate (p.length - i) z = p.map f := by
  rw [List.take_of_length_le h, show p.length - i = 0 by omega]; simp
theorem ix_get {l : List Int} {i : Nat} (h : i < l.length) : ix l (i : Int) = some l[i] := by rw [ix_nat h]; simp [h]
theorem setx_get {l : List Int} {i : Nat} (h : i < l.length) (v : Int) : setx l (i : Int) v = some (l.set i v) := by rw [setx_eq (by omega) (by omega)]; simp
theorem shifted_loop (N : Nat) (p : List Int) (d : Int) (hp : p.length ≤ 1000000) : ∀ (k i : Nat), p.length - i < k → i ≤ p.length →
    gShifted_L1 N p d k ((p.take i).map (fun x => IntKind.u16.wrap (x + d)) ++ List.replicate (p.length - i) 0) (i : Int) = some (p.map fun x => IntKind.u16.wrap (x + d))
  | 0, i, h, _ => absurd h (Nat.not_lt_zero _)
  | k + 1, i, h, hi => by
    unfold gShifted_L1
    by_cases hx : i < p.length
    · have hl := fill_len p (fun x => IntKind.u16.wrap (x + d)) 0 i hi
      rw [if_pos (by omega), ix_get hx, Option.bind_some, ix_get (by omega), Option.bind_some, setx_get (by omega), Option.bind_some, wp1 i (by omega)]
      rw [fill_step p (fun x => IntKind.u16.wrap (x + d)) 0 i hx]
      exact shifted_loop N p d hp k (i + 1) (by omega) (by omega)
    · rw [if_neg (by omega), fill_end _ _ _ _ (by omega)]
theorem mkn0 (n : Nat) (h : n ≤ 1000000) : mkx ((n : Nat) : Int) = some (List.replicate n 0) := by rw [mkx_eq (by omega) (by omega)]; simp
theorem mkg0 {α : Type} (n : Nat) (z : α) (h : n ≤ 1000000) : mkg ((n : Nat) : Int) z = some (List.replicate n z) := by unfold mkg; rw [if_pos (by omega)]; simp
theorem shifted_eq (N : Nat) (hN : 1000000 < N) (p : List Int) (d : Int) (hp : p.length ≤ 200000) : gShifted N p d = some (p.map fun x => IntKind.u16.wrap (x + d)) := by
  unfold gShifted
  rw [mkn0 _ (by omega), Option.bind_some]
  have h := shifted_loop N p d (by omega) N 0 (by omega) (Nat.zero_le _)
  have h' : gShifted_L1 N p d N (List.replicate p.length 0) 0 = some (p.map fun x => IntKind.u16.wrap (x + d)) := by simpa using h
  rw [h']
  rfl
theorem paired_loop (N : Nat) (p q : List Int) (hq : p.length = q.length) (hp : p.length ≤ 1000000) : ∀ (k i : Nat), p.length - i < k → i ≤ p.length →
    gPaired_L1 N p q k (((p.zip q).take i).map id ++ List.replicate ((p.zip q).length - i) (0, 0)) (i : Int) = some (p.zip q)
  | 0, i, h, _ => absurd h (Nat.not_lt_zero _)
  | k + 1, i, h, hi => by
    have hz : (p.zip q).length = p.length := by rw [List.length_zip]; omega
    unfold gPaired_L1
    by_cases hx : i < p.length
    · have hl := fill_len (p.zip q) id (0, 0) i (by omega)
      rw [if_pos (by omega), ix_get hx, Option.bind_some, ix_get (by omega), Option.bind_some, ixg_eq (by omega), Option.bind_some, setg_eq (by omega), Option.bind_some, wp1 i (by omega)]
      have e : (p[i], q[i]'(by omega)) = id ((p.zip q)[i]'(by omega)) := by rw [List.getElem_zip]; rfl
      rw [e, fill_step (p.zip q) id (0, 0) i (by omega)]
      exact paired_loop N p q hq hp k (i + 1) (by omega) (by omega)
    · rw [if_neg (by omega), fill_end _ _ _ _ (by omega), List.map_id]
theorem paired_eq (N : Nat) (hN : 1000000 < N) (p q : List Int) (hq : p.length = q.length) (hp : p.length ≤ 200000) : gPaired N p q = some (p.zip q) := by
  unfold gPaired
  rw [mkg0 _ _ (by omega), Option.bind_some]
  have h := paired_loop N p q hq (by omega) N 0 (by omega) (Nat.zero_le _)
  have h' : gPaired_L1 N p q N (List.replicate p.length (0, 0)) 0 = some (p.zip q) := by
    have hz : (p.zip q).length = p.length := by rw [List.length_zip]; omega
    simpa [hz] using h
  rw [h']
  rfl
theorem multi_loop (N : Nat) (p : List Int) (q : List (List Int)) (hq : p.length = q.length) (hp : p.length ≤ 1000000) : ∀ (k i : Nat), p.length - i < k → i ≤ p.length →
    gMultiple_L1 N p q k (((p.zip q).take i).map id ++ List.replicate ((p.zip q).length - i) (0, [])) (i : Int) = some (p.zip q)
  | 0, i, h, _ => absurd h (Nat.not_lt_zero _)
  | k + 1, i, h, hi => by
    have hz : (p.zip q).length = p.length := by rw [List.length_zip]; omega
    unfold gMultiple_L1
    by_cases hx : i < p.length
    · have hl := fill_len (p.zip q) id (0, []) i (by omega)
      rw [if_pos (by omega), ix_get hx, Option.bind_some, ixg_eq (by omega), Option.bind_some, ixg_eq (by omega), Option.bind_some, setg_eq (by omega), Option.bind_some, wp1 i (by omega)]
      have e : (p[i], q[i]'(by omega)) = id ((p.zip q)[i]'(by omega)) := by rw [List.getElem_zip]; rfl
      rw [e, fill_step (p.zip q) id (0, []) i (by omega)]
      exact multi_loop N p q hq hp k (i + 1) (by omega) (by omega)
    · rw [if_neg (by omega), fill_end _ _ _ _ (by omega), List.map_id]
theorem head_ix : ∀ (l : List Int), 1 ≤ l.length → ix l (0 : Int) = some (l.headD 0)
  | [], h => by simp at h
  | a :: t, _ => by unfold ix; rw [if_pos (by simp)]; rfl
theorem alt_loop (N : Nat) (q : List (List Int)) (hq : ∀ x ∈ q, 1 ≤ x.length) (hp : q.length ≤ 1000000) : ∀ (k i : Nat), q.length - i < k → i ≤ q.length →
    gAlternate_L1 N q k ((q.take i).map (fun x => x.headD 0) ++ List.replicate (q.length - i) 0) (i : Int) = some (q.map fun x => x.headD 0)
  | 0, i, h, _ => absurd h (Nat.not_lt_zero _)
  | k + 1, i, h, hi => by
    unfold gAlternate_L1
    by_cases hx : i < q.length
    · have hl := fill_len q (fun x => x.headD 0) 0 i hi
      have h1 := hq q[i] (List.getElem_mem hx)
      have h2 := head_ix _ h1
      rw [if_pos (by omega), ixg_eq hx, Option.bind_some, h2, Option.bind_some, ix_get (by omega), Option.bind_some, setx_get (by omega), Option.bind_some, wp1 i (by omega)]
      rw [fill_step q (fun x => x.headD 0) 0 i hx]
      exact alt_loop N q hq hp k (i + 1) (by omega) (by omega)
    · rw [if_neg (by omega), fill_end _ _ _ _ (by omega)]
theorem zip_pair {α : Type} (p : List Int) (q : List α) (h : p.Pairwise (· < ·)) : (p.zip q).Pairwise (fun x y => x.1 < y.1) := by
  induction p generalizing q with
  | nil => simp
  | cons a p ih =>
    cases q with
    | nil => simp
    | cons c q =>
      rw [List.zip_cons_cons]
      rw [List.pairwise_cons] at h ⊢
      exact ⟨fun x hx => h.1 _ (List.of_mem_zip hx).1, ih q h.2⟩
theorem pairs_ok {g : Int} {p q : List Int} (hp : RiseL g p) (hq : ∀ x ∈ q, InG g x) (h : p.length = q.length) : PairsOK g (p.zip q) := by
  refine ⟨zip_pair p q hp.1, fun x hx => ⟨hp.2.1 _ (List.of_mem_zip hx).1, hq _ (List.of_mem_zip hx).2⟩, ?_, ?_⟩
  · rw [List.length_zip]; have := hp.2.2; omega
  · rw [List.length_zip]; have := hp.2.2; omega
section
variable (N : Nat) (b : List Int) (g lk : Int) (hU : U8 b) (hb : b.length ≤ 3000) (hN : 1000000 < N)
include hU hb hN
theorem gsingle_good (c p : Int) (hp : 0 ≤ p ∧ p ≤ 800000) : PanG (gSingle N g lk c b false p) fun r => ∃ s c', r = (s, [], [], [], [], [], [], c', false) ∧ PairsOK g s := by
  unfold gSingle
  refine goodc_end (P := fun r => r.2.1 = false ∧ RiseL g r.2.2.1 ∧ U16 r.2.2.2 ∧ r.2.2.1.length = r.2.2.2.length) ?_ ?_ (fun x => ⟨_, rfl⟩)
  · refine goodc_bind (gword_good N b g lk hU hb hN c p) ?_ (fun x => ⟨_, rfl⟩)
    rintro ⟨x, q⟩ ⟨e, h⟩
    injection e with e1 e2
    subst e2
    show PanC (if x = 1 then _ else _) _
    split
    · refine goodc_bind (gcovered_good N b g lk hU hb hN c p (by omega)) ?_ (fun x => ⟨_, rfl⟩)
      rintro ⟨l, c', q⟩ ⟨e, h2, h3⟩
      injection e with e1 e2
      injection e2 with e2 e3
      subst e1; subst e2; subst e3
      show PanC ((gWord N g lk _ b false (IntKind.i64.wrap (p + 4))).bind _) _
      refine goodc_bind (gword_good N b g lk hU hb hN _ _) ?_ (fun x => ⟨_, rfl⟩)
      rintro ⟨d, q⟩ ⟨e, h4⟩
      injection e with e1 e2
      subst e2
      have h5 := h2.2.2
      show PanC ((gShifted N _ d).bind _) _
      rw [shifted_eq N hN _ d (by omega), Option.bind_some]
      refine goodc_go ⟨rfl, h2, fun y hy => ?_, by simp⟩
      obtain ⟨z, _, rfl⟩ := List.mem_map.1 hy
      rw [IntKind.wrap_u16]; omega
    · split
      · refine goodc_bind (geach_good N b g lk hU hb hN c p (by omega)) ?_ (fun x => ⟨_, rfl⟩)
        rintro ⟨l, m, c', q⟩ ⟨e1, e2, e3, h2, h3, e4, h4, e5⟩
        simp only at e1 e2 e3 h2 h3 e4 h4 e5
        subst e5
        refine goodc_go ⟨rfl, h2, ?_, e3⟩
        show U16 m
        rw [e2]
        exact wds_u16 hU _ _
      · exact goodc_gone
  · rintro ⟨c1, q, l, m⟩ ⟨e, h1, h2, h3⟩
    simp only at e h1 h2 h3
    subst e
    refine good_bind (gcount_good N b g lk hU hb hN c1 _ _) ?_ (fun x => ⟨_, rfl⟩)
    rintro c2 ⟨_, h4⟩
    have h5 := h1.2.2
    refine good_bind (gright_good N b g lk hb hN c2 false m (by omega) h2) ?_ (fun x => ⟨_, rfl⟩)
    intro _ h6
    show PanG ((gPaired N l m).bind _) _
    rw [paired_eq N hN l m h3 (by omega), Option.bind_some]
    exact good_ok ⟨_, _, rfl, pairs_ok h1 (fun x hx => ⟨(h2 x hx).1, h6 x hx, (h2 x hx).2⟩) h3⟩
theorem grows_loop (p : Int) (l : List Int) (hp : 0 ≤ p ∧ p ≤ 800000) (hl : l.length ≤ 65535) (hL : U16 l) : ∀ (k i : Nat) (c : Int) (acc : List (List Int)), l.length - i < k → i ≤ l.length → acc.length = i → (∀ x ∈ acc, 1 ≤ x.length ∧ x.length ≤ 65535 ∧ ∀ y ∈ x, InG g y) →
    PanC (gRows_L1 N g lk b p l k c false acc (i : Int)) fun r => r.2.1 = false ∧ r.2.2.length = l.length ∧ ∀ x ∈ r.2.2, 1 ≤ x.length ∧ x.length ≤ 65535 ∧ ∀ y ∈ x, InG g y
  | 0, i, _, _, h, _, _, _ => absurd h (Nat.not_lt_zero _)
  | k + 1, i, c, acc, h, hi, ha, hacc => by
    unfold gRows_L1
    by_cases hx : i < l.length
    · have h1 := hL.at i
      rw [if_pos (by omega), ix_nat hx, Option.bind_some, w64 (x := l.getD i 0) (by omega) (by omega), w64 (x := p + l.getD i 0) (by omega) (by omega), w64 (x := p + l.getD i 0 + 2) (by omega) (by omega)]
      refine goodc_bind (gsize_good N b g lk hU hb hN c _) ?_ (fun x => ⟨_, rfl⟩)
      rintro ⟨x, q⟩ ⟨e, h2, h3⟩
      injection e with e1 e2
      subst e1; subst e2
      have hr := rdv_in hU (p + l.getD i 0)
      refine goodc_bind (gcount_good N b g lk hU hb hN c _ _) ?_ (fun x => ⟨_, rfl⟩)
      rintro c2 ⟨_, h4⟩
      refine goodc_bind (gwords_good N b g lk hU hb hN c2 _ _ (by omega)) ?_ (fun x => ⟨_, rfl⟩)
      rintro ⟨m, q⟩ ⟨e, h5⟩
      injection e with e1 e2
      subst e1; subst e2
      have hlen := wds_len b (p + l.getD i 0 + 2) (rdv b (p + l.getD i 0)).toNat
      have hu := wds_u16 hU (p + l.getD i 0 + 2) (rdv b (p + l.getD i 0)).toNat
      refine goodc_bind (gright_good N b g lk hb hN c2 false _ (by omega) hu) ?_ (fun x => ⟨_, rfl⟩)
      intro _ h6
      show PanC ((apg acc _).bind _) _
      rw [apg_eq (by simp; omega), Option.bind_some, wp1 i (by omega)]
      refine grows_loop p l hp hl hL k (i + 1) c2 _ (by omega) (by omega) (by simp; omega) ?_
      intro x hx
      rcases List.mem_append.1 hx with hx | hx
      · exact hacc x hx
      · rw [List.mem_singleton.1 hx]
        exact ⟨by omega, by omega, fun y hy => ⟨(hu y hy).1, h6 y hy, (hu y hy).2⟩⟩
    · rw [if_neg (by omega)]
      exact goodc_go ⟨rfl, by show acc.length = _; omega, hacc⟩
theorem grows_good (c p : Int) (hp : 0 ≤ p ∧ p ≤ 800000) : PanG (gRows N g lk c b false p) fun r => RiseL g r.1 ∧ r.1.length = r.2.1.length ∧ (∀ x ∈ r.2.1, 1 ≤ x.length ∧ x.length ≤ 65535 ∧ ∀ y ∈ x, InG g y) ∧ r.2.2.2 = false := by
  unfold gRows
  refine good_bind (gword_good N b g lk hU hb hN c p) ?_ (fun x => ⟨_, rfl⟩)
  rintro ⟨x, q⟩ ⟨e, h⟩
  injection e with e1 e2
  subst e2
  refine good_bind (require_good N _) ?_ (fun x => ⟨_, rfl⟩)
  intro _ _
  refine good_bind (geach_good N b g lk hU hb hN c p (by omega)) ?_ (fun x => ⟨_, rfl⟩)
  rintro ⟨l, m, c', q⟩ ⟨e1, e2, e3, h2, h3, e4, h4, e5⟩
  simp only at e1 e2 e3 h2 h3 e4 h4 e5
  subst e5
  have h5 := h2.2.2
  refine goodc_end (grows_loop N b g lk hU hb hN p m hp (by omega) (by rw [e2]; exact wds_u16 hU _ _) N 0 c' [] (by omega) (Nat.zero_le _) rfl (fun x hx => by cases hx)) ?_ (fun x => ⟨_, rfl⟩)
  rintro ⟨c2, q, r⟩ ⟨e, h6, h7⟩
  simp only at e h6 h7
  subst e
  exact good_ok ⟨h2, by show l.length = r.length; omega, h7, rfl⟩
theorem gmultiple_good (c p : Int) (hp : 0 ≤ p ∧ p ≤ 800000) : PanG (gMultiple N g lk c b false p) fun r => ∃ s c', r = ([], s, [], [], [], [], [], c', false) ∧ ManysOK g s := by
  unfold gMultiple
  refine good_bind (grows_good N b g lk hU hb hN c p hp) ?_ (fun x => ⟨_, rfl⟩)
  rintro ⟨l, m, c', q⟩ ⟨h2, e3, h4, e5⟩
  simp only at h2 e3 h4 e5
  subst e5
  have h5 := h2.2.2
  show PanG ((mkg ((l.length : Nat) : Int) ((0, []) : Int × List Int)).bind _) _
  rw [mkg0 _ _ (by omega), Option.bind_some]
  have h := multi_loop N l m e3 (by omega) N 0 (by omega) (Nat.zero_le _)
  have h' : gMultiple_L1 N l m N (List.replicate l.length (0, [])) 0 = some (l.zip m) := by
    have hz : (l.zip m).length = l.length := by rw [List.length_zip]; omega
    simpa [hz] using h
  rw [h']
  refine good_ok ⟨_, _, rfl, zip_pair l m h2.1, fun x hx => ⟨h2.2.1 _ (List.of_mem_zip hx).1, h4 _ (List.of_mem_zip hx).2⟩, ?_, ?_⟩
  · rw [List.length_zip]; omega
  · rw [List.length_zip]; omega
theorem galternate_good (c p : Int) (hp : 0 ≤ p ∧ p ≤ 800000) : PanG (gAlternate N g lk c b false p) fun r => ∃ s c', r = (s, [], [], [], [], [], [], c', false) ∧ PairsOK g s := by
  unfold gAlternate
  refine good_bind (grows_good N b g lk hU hb hN c p hp) ?_ (fun x => ⟨_, rfl⟩)
  rintro ⟨l, m, c', q⟩ ⟨h2, e3, h4, e5⟩
  simp only at h2 e3 h4 e5
  subst e5
  have h5 := h2.2.2
  show PanG ((mkx ((l.length : Nat) : Int)).bind _) _
  rw [mkn0 _ (by omega), Option.bind_some]
  have h := alt_loop N m (fun x hx => (h4 x hx).1) (by omega) N 0 (by omega) (Nat.zero_le _)
  have h' : gAlternate_L1 N m N (List.replicate l.length 0) 0 = some (m.map fun x => x.headD 0) := by rw [e3]; simpa using h
  rw [h', Option.bind_some, paired_eq N hN l _ (by simp; omega) (by omega), Option.bind_some]
  refine good_ok ⟨_, _, rfl, pairs_ok h2 (fun x hx => ?_) (by simp; omega)⟩
  obtain ⟨z, hz, rfl⟩ := List.mem_map.1 hx
  obtain ⟨h7, _, h8⟩ := h4 z hz
  cases z with
  | nil => simp at h7
  | cons a t => exact h8 a (by simp)
end
end Go.Proofs.Ytgjlpiljacecpaa
