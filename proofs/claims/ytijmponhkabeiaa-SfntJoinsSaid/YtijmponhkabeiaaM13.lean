/-
  Several texts in one: JoinR, SumF.
-/
import Derived.Test.YtijmponhkabeiaaM12
namespace Go.Proofs.Ytijmponhkabeiaa
open Go Go.RowKit

theorem four_four (l : List Int) (p : Nat) (a b : List Int) (hp : p + 4 ≤ l.length) (ha : a.length = 4) (hb : b.length = 4) : setFour (setFour l p a) p b = setFour l p b := by
  have hl := four_len l p a hp ha
  apply ext_getD (by rw [four_len _ _ _ (by omega) hb, four_len _ _ _ hp hb, hl])
  intro j _
  rw [four_get _ _ _ (by omega) hb, four_get _ _ _ hp hb, four_get _ _ _ hp ha]
  split <;> rfl

theorem sumT_low (x : Int) (hx : 0 ≤ x ∧ x ≤ 4294967295) (q : Nat) (hq : q % 4 = 0) : sumT (lowB 4 x) q = x := by
  rw [low4]
  simp only [sumT]
  have h0 : wgt q = 16777216 := by unfold wgt; rw [if_pos hq]
  have h1 : wgt (q + 1) = 65536 := by unfold wgt; rw [if_neg (by omega), if_pos (by omega)]
  have h2 : wgt (q + 1 + 1) = 256 := by unfold wgt; rw [if_neg (by omega), if_neg (by omega), if_pos (by omega)]
  have h3 : wgt (q + 1 + 1 + 1) = 1 := by unfold wgt; rw [if_neg (by omega), if_neg (by omega), if_neg (by omega)]
  rw [h0, h1, h2, h3]
  omega

theorem sumT_four_at (W : List Int) (q : Nat) (a : List Int) (hp : q + 4 ≤ W.length) (ha : a.length = 4) : sumT (setFour W q a) 0 = sumT (W.take q) 0 + (sumT a q + sumT (W.drop (q + 4)) (q + 4)) := by
  have hl : (W.take q).length = q := by rw [List.length_take]; omega
  rw [four_eq W q a ha, sumT_append, sumT_append, hl, ha, Nat.zero_add]

/-- the sum of the whole -/
theorem joinEnd_sum (ts bs : List (List Int)) (h : JoinOf ts bs) (j : JoinS) (hj : joinL ts bs ts.length ts.length = some j) (q : Nat) (hq : j.hole = some q) : sumS (joinEnd j) = 2981146554 := by
  have hw := joinL_whole ts bs h j hj
  obtain ⟨k, hk, hkt, hkl, rfl⟩ := (joinL_hole ts bs h ts.length j (Nat.le_refl _) hj).1 q hq
  have h1 := sizeJ_in bs (show k < bs.length by have := h.len; omega)
  have h2 := hw.len
  have h4 := sizeJ_four bs k
  unfold joinEnd
  rw [hq]
  simp only
  generalize j.recs ++ j.rest = W at h2 ⊢
  have hp : sizeJ bs k + 8 + 4 ≤ W.length := by omega
  have e0 := sumT_four_at W (sizeJ bs k + 8) [0, 0, 0, 0] hp rfl
  have ez : sumT [0, 0, 0, 0] (sizeJ bs k + 8) = 0 := by simp [sumT]
  obtain ⟨x, hx⟩ : ∃ x, x = (2981146554 - sumS (setFour W (sizeJ bs k + 8) [0, 0, 0, 0])) % 4294967296 := ⟨_, rfl⟩
  rw [← hx]
  have hxb : 0 ≤ x ∧ x ≤ 4294967295 := by omega
  have e1 := sumT_four_at W (sizeJ bs k + 8) (lowB 4 x) hp (lowB_len _ _)
  rw [sumT_low x hxb _ (by omega)] at e1
  rw [put1_eq x hxb]
  unfold sumS at hx ⊢
  rw [e1]
  rw [e0, ez] at hx
  omega

section
variable {ts bs : List (List Int)} {j : JoinS} {W E : List Int}

/-- the tables' bytes in the end -/
def piecesE (bs : List (List Int)) (E : List Int) (n : Nat) : List (List Int) := (List.range n).map (pieceE bs E)

theorem pieces_getD (bs : List (List Int)) (E : List Int) (n i : Nat) (hi : i < n) : (piecesE bs E n).getD i [] = pieceE bs E i := by
  unfold piecesE
  rw [List.getD_eq_getElem?_getD, List.getElem?_map, List.getElem?_range hi]
  rfl

theorem pieces_size (h : JoinOf ts bs) (hw : Whole ts bs j W) (he : Ended ts bs W E) : ∀ i, i ≤ ts.length → sizeJ (piecesE bs E ts.length) i = sizeJ bs i
  | 0, _ => by rw [sizeJ_zero, sizeJ_zero, ← h.len]; unfold piecesE; rw [List.length_map, List.length_range]
  | i + 1, hi => by
    rw [sizeJ_next, sizeJ_next, pieces_size h hw he i (by omega), pieces_getD _ _ _ _ (by omega), piece_len h hw he i (by omega)]

theorem pieces_of (h : JoinOf ts bs) (hw : Whole ts bs j W) (he : Ended ts bs W E) (hA : AllB E) : JoinOf ts (piecesE bs E ts.length) := by
  have hl : (piecesE bs E ts.length).length = ts.length := by unfold piecesE; rw [List.length_map, List.length_range]
  refine ⟨hl.symm, h.one, h.most, h.four, h.tb, ?_, h.order, ?_⟩
  · intro b hb
    unfold piecesE at hb
    obtain ⟨i, _, rfl⟩ := List.mem_map.1 hb
    intro x hx
    exact hA x (List.mem_of_mem_drop (List.mem_of_mem_take hx))
  · rw [hl, pieces_size h hw he _ (Nat.le_refl _), h.len]; exact h.size

/-- joined again, step by step -/
theorem again_step (h : JoinOf ts bs) (hw : Whole ts bs j W) (he : Ended ts bs W E) : ∀ i j0 j1, i ≤ ts.length → joinL ts bs ts.length i = some j0 → joinL ts (piecesE bs E ts.length) ts.length i = some j1 →
    j1.recs = j0.recs ∧ j1.place = j0.place ∧ j1.hole = j0.hole ∧ j1.rest = (E.drop (12 + 16 * ts.length)).take (sizeJ bs i - (12 + 16 * ts.length))
  | 0, j0, j1, _, h0, h1 => by
    simp only [joinL, Option.some.injEq] at h0 h1
    subst h0
    subst h1
    refine ⟨rfl, rfl, rfl, ?_⟩
    rw [sizeJ_zero, ← h.len, Nat.sub_self]
    rfl
  | i + 1, j0, j1, hi, h0, h1 => by
    have hi' : i < ts.length := by omega
    obtain ⟨a0, ha0, rfl⟩ := joinL_next h0
    obtain ⟨a1, ha1, rfl⟩ := joinL_next h1
    obtain ⟨e1, e2, e3, e4⟩ := again_step h hw he i a0 a1 (by omega) ha0 ha1
    have hg := pieces_getD bs E ts.length i hi'
    have hl := piece_len h hw he i hi'
    have hs := piece_sum h hw he i hi'
    have hwl := hw.len
    have hel := he.len
    have hln := h.len
    have hu := upN_le (bs.getD i []).length
    have hz := sizeJ_zero bs
    have hm0 := sizeJ_mono bs (Nat.zero_le i)
    have hm1 := sizeJ_mono bs (show i + 1 ≤ bs.length by omega)
    have hnx := sizeJ_next bs i
    refine ⟨?_, ?_, ?_, ?_⟩
    · simp only [hg, hl, hs, e1, e2]
    · simp only [hg, hl, e2]
    · simp only [hg, hl, e2, e3]
    · simp only [hg, hl, e4]
      have L0 : ((E.drop (12 + 16 * ts.length)).take (sizeJ bs i - (12 + 16 * ts.length))).length = sizeJ bs i - (12 + 16 * ts.length) := slice_len _ _ _ (by omega)
      have L1 : ((E.drop (12 + 16 * ts.length)).take (sizeJ bs (i + 1) - (12 + 16 * ts.length))).length = sizeJ bs (i + 1) - (12 + 16 * ts.length) := slice_len _ _ _ (by omega)
      have hlen : (((E.drop (12 + 16 * ts.length)).take (sizeJ bs i - (12 + 16 * ts.length))) ++ pieceE bs E i ++ List.replicate (upN (bs.getD i []).length - (bs.getD i []).length) 0).length = sizeJ bs (i + 1) - (12 + 16 * ts.length) := by
        rw [List.length_append, List.length_append, L0, hl, List.length_replicate]
        omega
      apply ext_getD (by rw [hlen, L1])
      intro m hm
      rw [hlen] at hm
      rw [slice_getD _ _ _ _ hm, List.append_assoc]
      by_cases c1 : m < sizeJ bs i - (12 + 16 * ts.length)
      · rw [getD_left _ _ _ (by rw [L0]; exact c1), slice_getD _ _ _ _ c1]
      · obtain ⟨d, hd⟩ : ∃ d, m = sizeJ bs i - (12 + 16 * ts.length) + d := ⟨m - (sizeJ bs i - (12 + 16 * ts.length)), by omega⟩
        have e := getD_right ((E.drop (12 + 16 * ts.length)).take (sizeJ bs i - (12 + 16 * ts.length))) (pieceE bs E i ++ List.replicate (upN (bs.getD i []).length - (bs.getD i []).length) 0) d
        rw [L0] at e
        rw [hd, e, show 12 + 16 * ts.length + (sizeJ bs i - (12 + 16 * ts.length) + d) = sizeJ bs i + d by omega]
        by_cases c2 : d < (bs.getD i []).length
        · rw [getD_left _ _ _ (by rw [hl]; exact c2)]
          unfold pieceE
          rw [slice_getD _ _ _ _ c2]
        · obtain ⟨f, hf⟩ : ∃ f, d = (bs.getD i []).length + f := ⟨d - (bs.getD i []).length, by omega⟩
          rw [ended_pad hw he i hi' d (by omega) (by omega)]
          have e := getD_right (pieceE bs E i) (List.replicate (upN (bs.getD i []).length - (bs.getD i []).length) 0) f
          rw [hl] at e
          rw [hf, e, List.getD_eq_getElem?_getD, List.getElem?_replicate]
          split <;> rfl
end

/-- joined again from its tables, it is itself -/
theorem join_again (ts bs : List (List Int)) (h : JoinOf ts bs) (j : JoinS) (hj : joinL ts bs ts.length ts.length = some j) (hA : AllB (joinEnd j)) : joinS ts (piecesE bs (joinEnd j) ts.length) = (joinEnd j, 0) := by
  have hw := joinL_whole ts bs h j hj
  have he := joinEnd_ended ts bs h j hj
  have hh := (joinL_hole ts bs h ts.length j (Nat.le_refl _) hj).1
  have h2 := pieces_of h hw he hA
  obtain ⟨j', hj', hr⟩ := joinS_ok ts _ h2
  rw [hr]
  obtain ⟨e1, _, e3, e4⟩ := again_step h hw he ts.length j j' (Nat.le_refl _) hj hj'
  have hwl := hw.len
  have hel := he.len
  have hln := h.len
  have hz := sizeJ_zero bs
  have hm0 := sizeJ_mono bs (Nat.zero_le bs.length)
  obtain ⟨j2, hj2, hrl, _⟩ := joinL_facts ts bs h.len h.one h.most h.four h.size ts.length (Nat.le_refl _)
  rw [hj] at hj2
  obtain rfl := Option.some.inj hj2
  have hE : j'.recs ++ j'.rest = joinEnd j := by
    rw [e1, e4]
    have L1 : (((joinEnd j).drop (12 + 16 * ts.length)).take (sizeJ bs ts.length - (12 + 16 * ts.length))).length = sizeJ bs ts.length - (12 + 16 * ts.length) := slice_len _ _ _ (by rw [hln]; rw [hln] at hrl; omega)
    apply ext_getD (by rw [List.length_append, L1, hrl, hel, hwl, hln]; omega)
    intro m hm
    rw [List.length_append, L1, hrl] at hm
    by_cases c : m < 12 + 16 * ts.length
    · rw [getD_left _ _ _ (by omega), ended_front h he m c, getD_left _ _ _ (by omega)]
    · obtain ⟨d, rfl⟩ : ∃ d, m = 12 + 16 * ts.length + d := ⟨m - (12 + 16 * ts.length), by omega⟩
      have e := getD_right j.recs (((joinEnd j).drop (12 + 16 * ts.length)).take (sizeJ bs ts.length - (12 + 16 * ts.length))) d
      rw [hrl] at e
      rw [e, slice_getD _ _ _ _ (by omega)]
  congr 1
  cases hq : j.hole with
  | none =>
    rw [hq] at e3
    unfold joinEnd at hE ⊢
    rw [e3]
    rw [hq] at hE ⊢
    exact hE
  | some q =>
    obtain ⟨k, hk, _, hkl, hqk⟩ := hh q hq
    have h1 := sizeJ_in bs (show k < bs.length by omega)
    have hp : q + 4 ≤ (j.recs ++ j.rest).length := by omega
    have hEq : joinEnd j = setFour (j.recs ++ j.rest) q (putA [(2981146554 - sumS (setFour (j.recs ++ j.rest) q [0, 0, 0, 0])) % 4294967296] ⟨#[73]⟩).2 := by
      unfold joinEnd
      rw [hq]
    have hx : 0 ≤ (2981146554 - sumS (setFour (j.recs ++ j.rest) q [0, 0, 0, 0])) % 4294967296 ∧ (2981146554 - sumS (setFour (j.recs ++ j.rest) q [0, 0, 0, 0])) % 4294967296 ≤ 4294967295 := by omega
    have h4 := put_one _ hx
    have hz4 : setFour (joinEnd j) q [0, 0, 0, 0] = setFour (j.recs ++ j.rest) q [0, 0, 0, 0] := by
      rw [hEq, four_four _ _ _ _ hp h4 rfl]
    rw [hq] at e3
    have hEq' : joinEnd j' = setFour (j'.recs ++ j'.rest) q (putA [(2981146554 - sumS (setFour (j'.recs ++ j'.rest) q [0, 0, 0, 0])) % 4294967296] ⟨#[73]⟩).2 := by
      unfold joinEnd
      rw [e3]
    rw [hEq', hE, hz4]
    conv => lhs; rw [hEq]
    rw [four_four _ _ _ _ hp h4 h4]
    exact hEq.symm

theorem joinER_b (ts bs : List (List Int)) (h : JoinOf ts bs) (j : JoinS) (hj : joinL ts bs ts.length ts.length = some j) (hW : AllB (j.recs ++ j.rest)) : AllB (joinEnd j) :=
  (joinEnd_ended ts bs h j hj).allB hW

/-- bytes all -/
theorem joinLR_b (ts bs : List (List Int)) (h : JoinOf ts bs) : ∀ i j, i ≤ ts.length → joinL ts bs ts.length i = some j → AllB j.recs ∧ AllB j.rest
  | 0, j, _, hj => by
    simp only [joinL, Option.some.injEq] at hj
    subst hj
    refine ⟨putA_b _ _, fun x hx => by simp at hx⟩
  | i + 1, j, hi, hj => by
    obtain ⟨j0, h0, rfl⟩ := joinL_next hj
    obtain ⟨i1, i2⟩ := joinLR_b ts bs h i j0 (by omega) h0
    have hln := h.len
    refine ⟨fun x hx => ?_, fun x hx => ?_⟩
    · rcases List.mem_append.1 hx with hx | hx
      · rcases List.mem_append.1 hx with hx | hx
        · exact i1 x hx
        · exact h.tb _ (getD_mem' (show i < ts.length by omega)) x hx
      · exact putA_b _ _ x hx
    · rcases List.mem_append.1 hx with hx | hx
      · rcases List.mem_append.1 hx with hx | hx
        · exact i2 x hx
        · exact h.bb _ (getD_mem' (show i < bs.length by omega)) x hx
      · rw [List.mem_replicate] at hx
        rw [hx.2]
        decide

theorem joinSR_b (ts bs : List (List Int)) (h : JoinOf ts bs) (j : JoinS) (hj : joinL ts bs ts.length ts.length = some j) : AllB (joinEnd j) := by
  refine joinER_b ts bs h j hj fun x hx => ?_
  have hb := joinLR_b ts bs h ts.length j (Nat.le_refl _) hj
  rcases List.mem_append.1 hx with hx | hx
  · exact hb.1 x hx
  · exact hb.2 x hx
end Go.Proofs.Ytijmponhkabeiaa

namespace Go.Proofs.Ytijmponhkabeiaa
open Go Go.RowKit

/-- the bytes of the first i bodies -/
def sumLen (bs : List (List Int)) : Nat → Nat
  | 0 => 0
  | i + 1 => sumLen bs i + (bs.getD i []).length

theorem sizeJ_sum (bs : List (List Int)) : ∀ i, sizeJ bs i ≤ 12 + 16 * bs.length + sumLen bs i + 3 * i
  | 0 => by rw [sizeJ_zero]; unfold sumLen; omega
  | i + 1 => by
    have h1 := sizeJ_sum bs i
    have h2 := upN_le (bs.getD i []).length
    rw [sizeJ_next]
    show _ ≤ 12 + 16 * bs.length + (sumLen bs i + (bs.getD i []).length) + 3 * (i + 1)
    omega

theorem joinS_err (ts bs : List (List Int)) (h : (joinS ts bs).2 ≠ 0) : (joinS ts bs).1 = [] := by
  unfold joinS at h ⊢
  split
  · rfl
  · rename_i hc
    rw [if_neg hc] at h
    split
    · rfl
    · rename_i ho
      rw [if_neg ho] at h
      cases hj : joinL ts bs ts.length ts.length with
      | none => rfl
      | some j =>
        rw [hj] at h
        simp only at h ⊢
        split
        · rfl
        · rename_i hp
          rw [if_neg hp] at h
          exact absurd rfl h

/-- all that is asked of a font that was joined -/
structure Joined (ts bs : List (List Int)) (E : List Int) : Prop where
  bytes : AllB E
  whole : E.length % 4 = 0 ∧ E.length ≤ 1000000
  same : ts.length = bs.length ∧ ts.length ≤ 64
  tabs : tablesS E = ((List.range ts.length).map (fun i => (ts.getD i [], ((sizeJ bs i : Nat) : Int), ((bs.getD i []).length : Int))), 0)
  fits : ∀ i, i < ts.length → sizeJ bs i + (bs.getD i []).length ≤ E.length ∧ sizeJ bs i % 4 = 0
  again : joinS ts (piecesE bs E ts.length) = (E, 0)
  least : sizeJ (piecesE bs E ts.length) (piecesE bs E ts.length).length ≤ 1000000
  sum : ∀ i, i < ts.length → ts.getD i [] = headT → 12 ≤ (bs.getD i []).length → sumS E = 2981146554
  keeps : ∀ i m, i < ts.length → m < (bs.getD i []).length → E.getD (sizeJ bs i + m) 0 = (bs.getD i []).getD m 0 ∨ (ts.getD i [] = headT ∧ 12 ≤ (bs.getD i []).length ∧ 8 ≤ m ∧ m < 12)

theorem joined_facts (ts bs : List (List Int)) (h4 : ∀ t ∈ ts, t.length = 4 ∧ AllB t) (hb : ∀ b ∈ bs, AllB b) (hsz : sizeJ bs bs.length ≤ 1000000) (h : (joinS ts bs).2 = 0) : Joined ts bs (joinS ts bs).1 := by
  have hj := joinOf_of ts bs h4 hb hsz h
  obtain ⟨j, hjl, hr⟩ := joinS_ok ts bs hj
  rw [hr]
  have hw := joinL_whole ts bs hj j hjl
  have he := joinEnd_ended ts bs hj j hjl
  have hA := joinSR_b ts bs hj j hjl
  have hp := pieces_of hj hw he hA
  have hwl := hw.len
  have hel := he.len
  have h4s := sizeJ_four bs bs.length
  have hln := hj.len
  have hL : (joinEnd j, (0 : Int)).1.length = sizeJ bs bs.length := hel.trans hwl
  refine ⟨hA, by omega, ⟨hj.len, hj.most⟩, tabs_joined hj hw he, fun i hi => ?_, join_again ts bs hj j hjl hA, ?_, fun i hi ht hl => ?_, fun i m hi hm => ended_body hw he i hi m hm⟩
  · have := sizeJ_in bs (show i < bs.length by omega)
    have := sizeJ_four bs i
    exact ⟨by show _ ≤ (joinEnd j).length; omega, this⟩
  · exact hp.size
  · cases hq : j.hole with
    | none => exact absurd ⟨ht, hl⟩ ((joinL_hole ts bs hj ts.length j (Nat.le_refl _) hjl).2 hq i hi)
    | some q => exact joinEnd_sum ts bs hj j hjl q hq
end Go.Proofs.Ytijmponhkabeiaa
