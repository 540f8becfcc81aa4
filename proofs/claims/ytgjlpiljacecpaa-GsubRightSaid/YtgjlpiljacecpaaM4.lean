/-
  Substitutions: lookups, and the whole table.
-/
import Derived.Test.YtgjlpiljacecpaaM3
import Derived.Test.YtgjlpiljacecpaaLv
import Derived.Test.YtgjlpiljacecpaaHC
namespace Go.Proofs.Ytgjlpiljacecpaa
open Go Go.RowKit
set_option linter.unusedVariables false
set_option linter.unusedSectionVars false
set_option linter.unusedSimpArgs false
abbrev TPos := List (Int × Int × Int) × List (Int × Int × Int × Int) × List (Int × List (Bool × Int × Int))
abbrev TLk := Int × Int × List TSub × List TPos
def HeadOK (x : Int × Int × List Int) : Prop := (0 ≤ x.1 ∧ x.1 ≤ 65535) ∧ (0 ≤ x.2.1 ∧ x.2.1 ≤ 14 ∧ x.2.1 % 2 = 0) ∧ 1 ≤ x.2.2.length ∧ x.2.2.length ≤ 256 ∧ ∀ y ∈ x.2.2, 0 ≤ y ∧ y ≤ 400000
theorem iand14 (x : Int) : 0 ≤ iand .u16 x 14 ∧ iand .u16 x 14 ≤ 14 ∧ iand .u16 x 14 % 2 = 0 := by
  obtain ⟨n, hn⟩ : ∃ n : Nat, (BitVec.ofInt IntKind.u16.bits x).toNat = n := ⟨_, rfl⟩
  have h0 : (BitVec.ofInt IntKind.u16.bits x &&& BitVec.ofInt IntKind.u16.bits 14).toNat = n &&& 14 := by rw [BitVec.toNat_and, hn]; rfl
  have h2 : n &&& 14 ≤ 14 := Nat.and_le_right
  have h3 : (n &&& 14) % 2 = 0 := by
    have := Nat.and_mod_two_pow (a := n) (b := 14) (n := 1)
    simpa using this
  unfold iand
  rw [h0, IntKind.wrap_u16]
  omega
section
variable (N : Nat) (b : List Int) (hU : U8 b) (hb : b.length ≤ 3000) (hN : 1000000 < N)
include hU hb hN
omit hU hb in
theorem lkat_loop (p : Int) (q : Bool) (l : List Int) (hp : 0 ≤ p ∧ p ≤ 300000) (hl : l.length ≤ 65535) (hL : U16 l) : ∀ (k i : Nat) (acc : List Int), l.length - i < k → i ≤ l.length → acc.length ≤ i →
    qLookupAt_L1 N p q l k acc (i : Int) = some (q, acc ++ (l.drop i).map fun x => p + x)
  | 0, i, _, h, _, _ => absurd h (Nat.not_lt_zero _)
  | k + 1, i, acc, h, hi, ha => by
    unfold qLookupAt_L1
    by_cases hx : i < l.length
    · have h1 := hL.at i
      rw [if_pos (by omega), ix_nat hx, Option.bind_some, w64 (x := l.getD i 0) (by omega) (by omega), w64 (x := p + l.getD i 0) (by omega) (by omega), apx_eq (by simp; omega), Option.bind_some, wp1 i (by omega), lkat_loop p q l hp hl hL k (i + 1) _ (by omega) (by omega) (by simp; omega), drop_cons hx]
      simp
    · rw [if_neg (by omega), List.drop_eq_nil_of_le (by omega)]
      simp
theorem lkat_ex (p : Int) (q : Bool) (hp : 0 ≤ p ∧ p ≤ 300000) : ∃ x1 x2 l ok q', qLookupAt N b q p = some (x1, x2, l, ok, q') ∧ (ok = true → HeadOK (x1, x2, l) ∧ q' = false) := by
  have h2 := rdv_in hU (p + 2)
  have h4 := rdv_in hU (p + 4)
  have h0 := rdv_in hU p
  unfold qLookupAt
  rw [w64 (x := p + 2) (by omega) (by omega), w64 (x := p + 4) (by omega) (by omega), word_eq N b q (p + 2) hU (by omega), Option.bind_some]
  simp only
  rw [word_eq N b _ (p + 4) hU (by omega), Option.bind_some]
  simp only
  rw [w64 (x := rdv b (p + 4)) (by omega) (by omega), w64 (x := p + 6) (by omega) (by omega)]
  split
  · exact ⟨_, _, _, _, _, rfl, fun h => by cases h⟩
  · split
    · exact ⟨_, _, _, _, _, rfl, fun h => by cases h⟩
    · split
      · exact ⟨_, _, _, _, _, rfl, fun h => by cases h⟩
      · simp only [Option.bind_some]
        rw [word_eq N b _ p hU (by omega), Option.bind_some]
        simp only
        rw [words_eq N b _ (p + 6) (rdv b (p + 4)) hU (by omega) (by omega), Option.bind_some]
        simp only
        have hl := len_or (hasB b (p + 6) (rdv b (p + 4)) 2) b (p + 6) (rdv b (p + 4)).toNat
        have hu := u16_or hU (hasB b (p + 6) (rdv b (p + 4)) 2) (p + 6) (rdv b (p + 4)).toNat
        have e : ∀ q, qLookupAt_L1 N p q (if hasB b (p + 6) (rdv b (p + 4)) 2 = true then wds b (p + 6) (rdv b (p + 4)).toNat else []) N [] 0 = some (q, (if hasB b (p + 6) (rdv b (p + 4)) 2 = true then wds b (p + 6) (rdv b (p + 4)).toNat else []).map fun x => p + x) := fun q => by
          have := lkat_loop N hN p q _ hp (by omega) hu N 0 [] (by omega) (Nat.zero_le _) (Nat.zero_le _)
          simpa using this
        rw [e, Option.bind_some]
        simp only [qBad, Option.bind_some]
        refine ⟨_, _, _, _, _, rfl, fun h => ?_⟩
        have hq := (Bool.not_eq_true' _).mp h
        refine ⟨?_, hq⟩
        simp only [Bool.or_eq_false_iff, Bool.not_eq_false'] at hq
        have h6 : hasB b (p + 6) (rdv b (p + 4)) 2 = true := hq.2
        rw [if_pos h6]
        refine ⟨h0, iand14 _, ?_, ?_, fun y hy => ?_⟩
        · rw [List.length_map, wds_len]; omega
        · rw [List.length_map, wds_len]; omega
        · obtain ⟨z, hz, rfl⟩ := List.mem_map.1 hy
          have := wds_u16 hU _ _ z hz
          omega
theorem lks_loop (p n : Int) (hp : 0 ≤ p ∧ p ≤ 70000) (hn : 0 ≤ n ∧ n ≤ 256) : ∀ (k i : Nat) (acc : List (Int × Int × List Int)), n.toNat - i < k → i ≤ n.toNat → acc.length = i → (∀ x ∈ acc, HeadOK x) →
    ∃ r, qLookups_L1 N b p n k false acc (i : Int) = some r ∧ ((∃ l, r = Ctl.go (false, l) ∧ l.length = n.toNat ∧ ∀ x ∈ l, HeadOK x) ∨ ∃ q, r = Ctl.ret ([], 50, q))
  | 0, i, _, h, _, _, _ => absurd h (Nat.not_lt_zero _)
  | k + 1, i, acc, h, hi, ha, hacc => by
    unfold qLookups_L1
    rw [w64 (x := n) (by omega) (by omega)]
    by_cases hx : i < n.toNat
    · rw [if_pos (by omega), w64 (x := p + 2) (by omega) (by omega), w64 (x := (2 : Int) * (i : Int)) (by omega) (by omega), w64 (x := p + 2 + (2 : Int) * (i : Int)) (by omega) (by omega), word_eq N b false _ hU (by omega), Option.bind_some]
      have hr := rdv_in hU (p + 2 + (2 : Int) * (i : Int))
      simp only
      rw [w64 (x := rdv b (p + 2 + (2 : Int) * (i : Int))) (by omega) (by omega), w64 (x := p + rdv b (p + 2 + (2 : Int) * (i : Int))) (by omega) (by omega)]
      obtain ⟨x1, x2, l, ok, q', e, h1⟩ := lkat_ex N b hU hb hN (p + rdv b (p + 2 + (2 : Int) * (i : Int))) (false || !hasB b (p + 2 + (2 : Int) * (i : Int)) 1 2) (by omega)
      rw [e, Option.bind_some]
      cases ok with
      | false => exact ⟨_, rfl, .inr ⟨_, rfl⟩⟩
      | true =>
        obtain ⟨h2, rfl⟩ := h1 rfl
        show ∃ r, ((apg acc _).bind _) = some r ∧ _
        rw [apg_eq (by simp; omega), Option.bind_some, wp1 i (by omega)]
        refine lks_loop p n hp hn k (i + 1) _ (by omega) (by omega) (by simp; omega) ?_
        intro x hx
        rcases List.mem_append.1 hx with hx | hx
        · exact hacc x hx
        · rw [List.mem_singleton.1 hx]; exact h2
    · rw [if_neg (by omega)]
      exact ⟨_, rfl, .inl ⟨acc, rfl, by omega, hacc⟩⟩
theorem lks_ex (p : Int) (q : Bool) (hp : 0 ≤ p ∧ p ≤ 70000) : ∃ l e q', qLookups N b q p = some (l, e, q') ∧ (e = 0 → q = false ∧ q' = false ∧ l.length ≤ 256 ∧ ∀ x ∈ l, HeadOK x) := by
  have hr := rdv_in hU p
  unfold qLookups
  rw [word_eq N b q p hU (by omega), Option.bind_some]
  simp only [qBad, Option.bind_some]
  cases hq : (q || !hasB b p 1 2) with
  | true => exact ⟨_, _, _, rfl, fun h => by cases h⟩
  | false =>
    have hq' : q = false := (Bool.or_eq_false_iff.1 hq).1
    simp only
    rw [w64 (x := rdv b p) (by omega) (by omega)]
    split
    · exact ⟨_, _, _, rfl, fun h => by cases h⟩
    · simp only [Option.bind_some]
      obtain ⟨r, e, ⟨l, rfl, h1, h2⟩ | ⟨q2, rfl⟩⟩ := lks_loop N b hU hb hN p (rdv b p) hp (by omega) N 0 [] (by omega) (Nat.zero_le _) rfl (fun x hx => by cases hx)
      · have e' : qLookups_L1 N b p (rdv b p) N false [] 0 = _ := e
        rw [e']
        exact ⟨_, _, _, rfl, fun _ => ⟨hq', rfl, by omega, h2⟩⟩
      · have e' : qLookups_L1 N b p (rdv b p) N false [] 0 = _ := e
        rw [e']
        exact ⟨_, _, _, rfl, fun h => by cases h⟩
end
def FeatOK (lk : Int) (x : Fe) : Prop := x.2.length ≤ 65536 ∧ x.2.Pairwise (· < ·) ∧ ∀ y ∈ x.2, 0 ≤ y ∧ y < lk
theorem up_ok (ws : List Int) (m : Nat) (lk : Int) (h : ∀ x ∈ ws, x < lk) : (upL ws m).length ≤ m ∧ (upL ws m).Pairwise (· < ·) ∧ ∀ y ∈ upL ws m, 0 ≤ y ∧ y < lk := by
  unfold upL
  refine ⟨?_, ?_, fun y hy => ?_⟩
  · rw [List.length_map]
    exact Nat.le_trans (List.length_filter_le ..) (by rw [List.length_range]; exact Nat.le_refl _)
  · rw [List.pairwise_map]
    exact ((List.pairwise_lt_range).filter _).imp (fun h => by omega)
  · obtain ⟨v, hv, rfl⟩ := List.mem_map.1 hy
    have h1 := (List.mem_filter.1 hv).2
    exact ⟨by omega, h _ (by simpa using h1)⟩
theorem specF_ok (b : List Int) (p1 p2 : Int) : ∀ (n i : Nat) (acc l : List Fe), specF b p1 p2 n i acc = some l → (∀ x ∈ acc, FeatOK p2 x) → l.length = acc.length + n ∧ ∀ x ∈ l, FeatOK p2 x
  | 0, _, acc, l, h, ha => by
    unfold specF at h
    injection h with h
    rw [← h]; exact ⟨rfl, ha⟩
  | n + 1, i, acc, l, h, ha => by
    unfold specF at h
    cases hr : resF b (p1 + rdv b (p1 + 2 + 6 * (i : Nat) + 4)) p2 with
    | none => rw [hr] at h; cases h
    | some r =>
      rw [hr] at h
      have h2 := specF_ok b p1 p2 n (i + 1) _ l h fun x hx => by
        rcases List.mem_append.1 hx with hx | hx
        · exact ha x hx
        · rw [List.mem_singleton.1 hx]
          unfold resF at hr
          split at hr
          · rename_i hc
            injection hr with hr
            have h3 := up_ok _ mxW _ hc.2
            rw [mxW_eq] at h3
            rw [← hr]
            rw [mxW_eq]
            exact h3
          · cases hr
      refine ⟨?_, h2.2⟩
      rw [h2.1, List.length_append, List.length_singleton]; omega
theorem feats_ex (N : Nat) (b : List Int) (p1 p2 : Int) (hU : U8 b) (hb : b.length ≤ 3000) (hN : 1000000 < N) :
    ∃ l e q', qFeats N b false p1 p2 = some (l, e, q') ∧ (e = 0 → q' = false ∧ l.length ≤ 512 ∧ ∀ x ∈ l, FeatOK p2 x) := by
  unfold qFeats
  rw [word_eq N b false p1 hU (by omega), Option.bind_some]
  have hr := rdv_in hU p1
  cases h2 : hasB b p1 1 2 with
  | false =>
    exact ⟨[], 50, true, rfl, fun h => by cases h⟩
  | true =>
    have hp : 0 ≤ p1 ∧ (0 : Int) ≤ 1 ∧ p1 + 2 * 1 ≤ (b.length : Int) := of_decide_eq_true h2
    obtain ⟨n, hn⟩ : ∃ n : Nat, rdv b p1 = (n : Int) := ⟨(rdv b p1).toNat, by omega⟩
    rw [hn]
    simp only [Bool.not_true, Bool.or_false, qBad, Option.bind_some]
    rw [zw64 (x := ((n : Nat) : Int)) (by omega) (by omega)]
    by_cases h5 : n > 512
    · rw [if_pos (by omega)]
      exact ⟨[], 50, false, rfl, fun h => by cases h⟩
    · rw [if_neg (by omega)]
      simp only [Option.bind_some]
      by_cases hw : p1 + 2 + 6 * (n : Int) ≤ (b.length : Int)
      · obtain ⟨g1, g2⟩ := prog_in N b p1 p2 n hU hb hN (by omega) (by omega) hw N 0 [] (by omega) (Nat.zero_le _) (Nat.le_refl _)
        cases hs : specF b p1 p2 (n - 0) 0 [] with
        | some l =>
          obtain ⟨k1, k2⟩ := g1 l hs
          have k1' : qFeats_L1 N b p1 p2 (n : Int) N false [] 0 = _ := k1
          rw [k1']
          exact ⟨l, 0, false, rfl, fun _ => ⟨rfl, by omega, (specF_ok b p1 p2 _ _ _ l hs (fun x hx => by cases hx)).2⟩⟩
        | none =>
          obtain ⟨q', k1⟩ := g2 hs
          have k1' : qFeats_L1 N b p1 p2 (n : Int) N false [] 0 = _ := k1
          rw [k1']
          exact ⟨[], 50, q', rfl, fun h => by cases h⟩
      · obtain ⟨q', k1⟩ := prog_out N b p1 p2 n hU hb hN (by omega) (by omega) hw N 0 [] (by omega) (by omega) (Nat.le_refl _)
        have k1' : qFeats_L1 N b p1 p2 (n : Int) N false [] 0 = _ := k1
        rw [k1']
        exact ⟨[], 50, q', rfl, fun h => by cases h⟩
def LkOK (g lk : Int) (x : TLk) : Prop := (0 ≤ x.1 ∧ x.1 ≤ 65535) ∧ (0 ≤ x.2.1 ∧ x.2.1 ≤ 14 ∧ x.2.1 % 2 = 0) ∧ (1 ≤ x.2.2.1.length ∧ x.2.2.1.length ≤ 256) ∧ x.2.2.2 = [] ∧ ∀ s ∈ x.2.2.1, SubOK g lk x.1 s
section
variable (N : Nat) (b : List Int) (g lk : Int) (hU : U8 b) (hb : b.length ≤ 3000) (hN : 1000000 < N)
include hU hb hN
omit hb hN hU in
theorem reading_good (c : Int) (q : Bool) (kind : Int) : PanG (gReading N g lk c b q kind) fun fn => (kind = 1 ∧ fn = 87) ∨ (kind = 2 ∧ fn = 88) ∨ (kind = 3 ∧ fn = 89) ∨ (kind = 4 ∧ fn = 90) ∨ (kind = 6 ∧ fn = 91) := by
  unfold gReading
  split
  · rename_i h; exact good_ok (.inl ⟨h, rfl⟩)
  split
  · rename_i h; exact good_ok (.inr (.inl ⟨h, rfl⟩))
  split
  · rename_i h; exact good_ok (.inr (.inr (.inl ⟨h, rfl⟩)))
  split
  · rename_i h; exact good_ok (.inr (.inr (.inr (.inl ⟨h, rfl⟩))))
  split
  · rename_i h; exact good_ok (.inr (.inr (.inr (.inr ⟨h, rfl⟩))))
  exact good_gone
abbrev TRes := List (Int × Int) × List (Int × List Int) × List (List Int × Int) × List (List Int) × List (List Int) × List (List Int) × List (Int × Int) × Int × Bool
def resS (r : TRes) : TSub := (r.1, r.2.1, r.2.2.1, r.2.2.2.1, r.2.2.2.2.1, r.2.2.2.2.2.1, r.2.2.2.2.2.2.1)
theorem disp_good (c p kind fn : Int) (hp : 0 ≤ p ∧ p ≤ 400000) (h : (kind = 1 ∧ fn = 87) ∨ (kind = 2 ∧ fn = 88) ∨ (kind = 3 ∧ fn = 89) ∨ (kind = 4 ∧ fn = 90) ∨ (kind = 6 ∧ fn = 91)) :
    PanG (gDisp N fn g lk c b false p) fun r => SubOK g lk kind (resS r) ∧ r.2.2.2.2.2.2.2.2 = false := by
  unfold gDisp
  rcases h with ⟨rfl, rfl⟩ | ⟨rfl, rfl⟩ | ⟨rfl, rfl⟩ | ⟨rfl, rfl⟩ | ⟨rfl, rfl⟩
  · rw [if_pos rfl]
    refine good_mono (gsingle_good N b g lk hU hb hN c p (by omega)) ?_
    rintro _ ⟨s, c', rfl, h⟩
    exact ⟨.inl ⟨s, .inl rfl, rfl, h⟩, rfl⟩
  · rw [if_neg (by decide), if_pos rfl]
    refine good_mono (gmultiple_good N b g lk hU hb hN c p (by omega)) ?_
    rintro _ ⟨s, c', rfl, h⟩
    exact ⟨.inr (.inl ⟨s, rfl, rfl, h⟩), rfl⟩
  · rw [if_neg (by decide), if_neg (by decide), if_pos rfl]
    refine good_mono (galternate_good N b g lk hU hb hN c p (by omega)) ?_
    rintro _ ⟨s, c', rfl, h⟩
    exact ⟨.inl ⟨s, .inr rfl, rfl, h⟩, rfl⟩
  · rw [if_neg (by decide), if_neg (by decide), if_neg (by decide), if_pos rfl]
    refine good_mono (gligatures_good N b g lk hU hb hN c p (by omega)) ?_
    rintro _ ⟨s, c', rfl, h⟩
    exact ⟨.inr (.inr (.inl ⟨s, rfl, rfl, h⟩)), rfl⟩
  · rw [if_neg (by decide), if_neg (by decide), if_neg (by decide), if_neg (by decide), if_pos rfl]
    refine good_mono (gchained_good N b g lk hU hb hN c p (by omega)) ?_
    rintro _ ⟨x, y, z, s, c', rfl, h⟩
    exact ⟨.inr (.inr (.inr ⟨x, y, z, s, rfl, rfl, h⟩)), rfl⟩
theorem lookup_loop (kind fn : Int) (l : List Int) (hl : l.length ≤ 256) (hL : ∀ y ∈ l, 0 ≤ y ∧ y ≤ 400000)
    (hf : (kind = 1 ∧ fn = 87) ∨ (kind = 2 ∧ fn = 88) ∨ (kind = 3 ∧ fn = 89) ∨ (kind = 4 ∧ fn = 90) ∨ (kind = 6 ∧ fn = 91)) :
    ∀ (k i : Nat) (c : Int) (acc : List TSub), l.length - i < k → i ≤ l.length → acc.length = i → (∀ x ∈ acc, SubOK g lk kind x) →
    PanC (gLookup_L1 N g lk b l fn k c false acc (i : Int)) fun r => r.2.1 = false ∧ r.2.2.length = l.length ∧ ∀ x ∈ r.2.2, SubOK g lk kind x
  | 0, i, _, _, h, _, _, _ => absurd h (Nat.not_lt_zero _)
  | k + 1, i, c, acc, h, hi, ha, hacc => by
    unfold gLookup_L1
    by_cases hx : i < l.length
    · rw [if_pos (by omega), ix_nat hx, Option.bind_some]
      refine goodc_bind (disp_good N b g lk hU hb hN c _ kind fn (hL _ (getD_mem hx)) hf) ?_ (fun x => ⟨_, rfl⟩)
      rintro ⟨a1, a2, a3, a4, a5, a6, a7, c2, q⟩ ⟨h1, e⟩
      simp only at e
      subst e
      show PanC ((apg acc _).bind _) _
      rw [apg_eq (by simp; omega), Option.bind_some, wp1 i (by omega)]
      refine lookup_loop kind fn l hl hL hf k (i + 1) _ _ (by omega) (by omega) (by simp; omega) ?_
      intro x hx
      rcases List.mem_append.1 hx with hx | hx
      · exact hacc x hx
      · rw [List.mem_singleton.1 hx]; exact h1
    · rw [if_neg (by omega)]
      exact goodc_go ⟨rfl, by show acc.length = _; omega, hacc⟩
theorem lookup_good (c : Int) (x : Int × Int × List Int) (hx : HeadOK x) : PanG (gLookup N g lk c b false x.1 x.2.1 x.2.2) fun r => LkOK g lk (r.1, r.2.1, r.2.2.1, r.2.2.2.1) ∧ r.2.2.2.2.2 = false := by
  obtain ⟨h1, h2, h3, h4, h5⟩ := hx
  unfold gLookup
  refine good_bind (reading_good N b g lk c false x.1) ?_ (fun x => ⟨_, rfl⟩)
  intro fn hf
  refine goodc_end (lookup_loop N b g lk hU hb hN x.1 fn x.2.2 h4 h5 hf N 0 c [] (by omega) (Nat.zero_le _) rfl (fun x hx => by cases hx)) ?_ (fun x => ⟨_, rfl⟩)
  rintro ⟨c2, q, r⟩ ⟨e, h7, h8⟩
  simp only at e h7 h8
  subst e
  exact good_ok ⟨⟨h1, h2, ⟨by show 1 ≤ r.length; omega, by show r.length ≤ 256; omega⟩, rfl, h8⟩, rfl⟩
theorem parsed_loop (l : List (Int × Int × List Int)) (hl : l.length ≤ 256) (hL : ∀ x ∈ l, HeadOK x) : ∀ (k i : Nat) (acc : List TLk), l.length - i < k → i ≤ l.length → acc.length = i → (∀ x ∈ acc, LkOK g (l.length : Nat) x) →
    PanC (gParsed_L1 N b g l k false acc (i : Int)) fun r => r.2.length = l.length ∧ ∀ x ∈ r.2, LkOK g (l.length : Nat) x
  | 0, i, _, h, _, _, _ => absurd h (Nat.not_lt_zero _)
  | k + 1, i, acc, h, hi, ha, hacc => by
    unfold gParsed_L1
    by_cases hx : i < l.length
    · rw [if_pos (by omega), ixg_eq hx, Option.bind_some]
      refine goodc_bind (lookup_good N b g ((l.length : Nat) : Int) hU hb hN 0 l[i] (hL _ (List.getElem_mem hx))) ?_ (fun x => ⟨_, rfl⟩)
      rintro ⟨a1, a2, a3, a4, c2, q⟩ ⟨h1, e⟩
      simp only at e
      subst e
      show PanC ((apg acc _).bind _) _
      rw [apg_eq (by simp; omega), Option.bind_some, wp1 i (by omega)]
      refine parsed_loop l hl hL k (i + 1) _ (by omega) (by omega) (by simp; omega) ?_
      intro x hx
      rcases List.mem_append.1 hx with hx | hx
      · exact hacc x hx
      · rw [List.mem_singleton.1 hx]; exact h1
    · rw [if_neg (by omega)]
      exact goodc_go ⟨by show acc.length = _; omega, hacc⟩
theorem parsed_good : PanG (gParsed N b false g) fun r => (∀ x ∈ r.1, LkOK g (r.1.length : Nat) x) ∧ r.1.length ≤ 256 ∧ (∀ x ∈ r.2.1, FeatOK (r.1.length : Nat) x) ∧ r.2.1.length ≤ 512 := by
  unfold gParsed
  refine goodc_end (P := fun _ => True) ?_ ?_ (fun x => ⟨_, rfl⟩)
  · simp only [qBad, Option.bind_some]
    rw [word_eq N b false 0 hU (by omega), Option.bind_some]
    simp only
    split
    · rw [word_eq N b _ 2 hU (by omega), Option.bind_some]
      exact goodc_bind (require_good N _) (fun _ _ => goodc_go trivial) (fun x => ⟨_, rfl⟩)
    · exact goodc_bind (require_good N _) (fun _ _ => goodc_go trivial) (fun x => ⟨_, rfl⟩)
  · intro q _
    show PanG ((qWord N b q 8).bind _) _
    have h8 := rdv_in hU 8
    have h6 := rdv_in hU 6
    rw [word_eq N b q 8 hU (by omega), Option.bind_some]
    simp only
    rw [w64 (x := rdv b 8) (by omega) (by omega)]
    obtain ⟨l, e, q', e1, h1⟩ := lks_ex N b hU hb hN (rdv b 8) (q || !hasB b 8 1 2) (by omega)
    rw [e1, Option.bind_some]
    refine good_bind (require_good N _) ?_ (fun x => ⟨_, rfl⟩)
    intro _ h2
    obtain ⟨h3, rfl, h4, h5⟩ := h1 (of_decide_eq_true h2)
    have h9 : hasB b 8 1 2 = true := by
      have := (Bool.or_eq_false_iff.1 h3).2
      simpa using this
    have h10 : hasB b 6 1 2 = true := by
      have : 0 ≤ (8 : Int) ∧ 0 ≤ (1 : Int) ∧ 8 + 2 * 1 ≤ (b.length : Int) := of_decide_eq_true h9
      exact decide_eq_true (by omega)
    show PanG ((qWord N b false 6).bind _) _
    rw [word_eq N b false 6 hU (by omega), Option.bind_some, h10]
    simp only [Bool.not_true, Bool.or_false]
    rw [w64 (x := rdv b 6) (by omega) (by omega)]
    obtain ⟨f, e2, q2, e3, h11⟩ := feats_ex N b (rdv b 6) ((l.length : Nat) : Int) hU hb hN
    rw [e3, Option.bind_some]
    refine good_bind (require_good N _) ?_ (fun x => ⟨_, rfl⟩)
    intro _ h12
    obtain ⟨rfl, h13, h14⟩ := h11 (of_decide_eq_true h12)
    refine goodc_end (parsed_loop N b g hU hb hN l h4 h5 N 0 [] (by omega) (Nat.zero_le _) rfl (fun x hx => by cases hx)) ?_ (fun x => ⟨_, rfl⟩)
    rintro ⟨q3, r⟩ ⟨h15, h16⟩
    simp only at h15 h16
    refine good_ok ⟨?_, by show r.length ≤ 256; omega, ?_, h13⟩
    · show ∀ x ∈ r, LkOK g (r.length : Nat) x
      rw [h15]; exact h16
    · show ∀ x ∈ f, FeatOK (r.length : Nat) x
      rw [h15]; exact h14
end
end Go.Proofs.Ytgjlpiljacecpaa
