/-
  SegmentWords, by lists.
-/
import Derived.Test.YtdbimchiecdkoaaSV
import Derived.Test.YtdbimchiecdkoaaSg4
import Derived.Test.YtdbimchiecdkoaaFWords
namespace Go.Proofs.Ytdbimchiecdkoaa
open Go Go.RowKit Sg
set_option linter.unusedVariables false
set_option linter.unusedSimpArgs false
def CH (x : Int) : Prop := x = 32 ∨ x = 97 ∨ x = 98 ∨ x = 1488 ∨ x = 1576 ∨ x = 55 ∨ x = 1639 ∨ x = 769
theorem ch_cls {x : Int} (h : CH x) : (breakC x = 5 ↔ x = 32) ∧ (x ≠ 769 → Wd (breakC x)) ∧ (x = 769 → breakC x = 9) := by
  have h1 : breakC 32 = 5 := by kernel_rfl
  have h2 : breakC 97 = 0 := by kernel_rfl
  have h3 : breakC 98 = 0 := by kernel_rfl
  have h4 : breakC 1488 = 28 := by kernel_rfl
  have h5 : breakC 1576 = 0 := by kernel_rfl
  have h6 : breakC 55 = 27 := by kernel_rfl
  have h7 : breakC 1639 = 27 := by kernel_rfl
  have h8 : breakC 769 = 9 := by kernel_rfl
  unfold Wd
  rcases h with rfl | rfl | rfl | rfl | rfl | rfl | rfl | rfl <;> simp [h1, h2, h3, h4, h5, h6, h7, h8]
theorem wordsOf_app : ∀ (a : Int) (l : List Int) (y : Int), WordsOf breakC a l → (Wd (breakC y) ∨ breakC y = 9 ∧ breakC ((a :: l).getLast?.getD 0) ≠ 5) → WordsOf breakC a (l ++ [y])
  | a, [], y, _, hy => ⟨by simpa using hy, trivial⟩
  | a, x :: l, y, h, hy => ⟨h.1, wordsOf_app x l y h.2 (by rw [List.getLast?_cons_cons] at hy; exact hy)⟩
def OkW : List Int → Prop
  | [] => True
  | x :: t => Wd (breakC x) ∧ WordsOf breakC x t
theorem okW_app {l : List Int} {y : Int} (h : OkW l) (hy : CH y) (h9 : y = 769 → l ≠ [] ∧ breakC (l.getLast?.getD 0) ≠ 5) : OkW (l ++ [y]) := by
  obtain ⟨c1, c2, c3⟩ := ch_cls hy
  cases l with
  | nil =>
    have : y ≠ 769 := fun e => (h9 e).1 rfl
    exact ⟨c2 this, trivial⟩
  | cons x t =>
    refine ⟨h.1, wordsOf_app x t y h.2 ?_⟩
    by_cases e : y = 769
    · exact .inr ⟨c3 e, (h9 e).2⟩
    · exact .inl (c2 e)
theorem words_L1 {N : Nat} {p : List Int} (hl : p.length ≤ 400) (hp : ∀ x ∈ p, 0 ≤ x) : ∀ (f i : Nat) (out : List Int), p.length - i < f → out.length ≤ i → OkW out → (∀ x ∈ out, CH x) →
    ∃ r, fWords_L1 N p f out (i : Int) = some r ∧ r.length ≤ out.length + (p.length - i) ∧ OkW r ∧ ∀ x ∈ r, CH x
  | 0, i, out, h, _, _, _ => by omega
  | f + 1, i, out, hf, ho, hw, hc => by
    unfold fWords_L1
    by_cases h : i < p.length
    · have hx := getD_some h
      have h0 : 0 ≤ p.getD i 0 := hp _ (List.mem_iff_getElem?.2 ⟨i, hx⟩)
      obtain ⟨y, hy, hyc⟩ : ∃ y, ix [32, 32, 97, 1488, 1576, 55, 1639, 769] (Int.tmod (p.getD i 0) 8) = some y ∧ CH y := by
        rw [Int.tmod_eq_emod_of_nonneg h0]
        have : p.getD i 0 % 8 = 0 ∨ p.getD i 0 % 8 = 1 ∨ p.getD i 0 % 8 = 2 ∨ p.getD i 0 % 8 = 3 ∨ p.getD i 0 % 8 = 4 ∨ p.getD i 0 % 8 = 5 ∨ p.getD i 0 % 8 = 6 ∨ p.getD i 0 % 8 = 7 := by omega
        unfold CH
        rcases this with e | e | e | e | e | e | e | e <;> rw [e] <;> exact ⟨_, rfl, by decide⟩
      have e : IntKind.i64.wrap ((i : Int) + 1) = ((i + 1 : Nat) : Int) := by rw [w64s (by omega) (by omega)]; omega
      have next : ∀ z, CH z → (z = 769 → out ≠ [] ∧ breakC (out.getLast?.getD 0) ≠ 5) → ∃ r, (apx out [z]).bind (fun l => fWords_L1 N p f l ((i + 1 : Nat) : Int)) = some r ∧ r.length ≤ out.length + (p.length - i) ∧ OkW r ∧ ∀ x ∈ r, CH x := by
        intro z hz h9
        rw [apx_ok (by simp; omega), Option.bind_some]
        obtain ⟨r, h1, h2, h3⟩ := words_L1 (N := N) hl hp f (i + 1) (out ++ [z]) (by omega) (by simp; omega) (okW_app hw hz h9) (fun x hx => by
          rcases List.mem_append.1 hx with hx | hx
          · exact hc x hx
          · rw [List.mem_singleton.1 hx]; exact hz)
        refine ⟨r, h1, ?_, h3⟩
        rw [List.length_append, List.length_singleton] at h2
        omega
      have h98 : CH 98 := by unfold CH; decide
      rw [if_pos (by omega), ix_nat hx, Option.bind_some, hy, Option.bind_some]
      simp only [e]
      by_cases hy9 : y = 769
      · rw [if_pos hy9]
        by_cases hn : out.length = 0
        · rw [if_pos (by omega)]
          exact next 98 h98 (fun e => by omega)
        · have hlast : ix out (IntKind.i64.wrap ((out.length : Int) - 1)) = some (out.getLast?.getD 0) := by
            rw [w64s (by omega) (by omega), show (out.length : Int) - 1 = ((out.length - 1 : Nat) : Int) by omega]
            refine ix_nat ?_
            rw [List.getLast?_eq_getElem?, getD_some (by omega)]; rfl
          rw [if_neg (by omega), hlast, Option.bind_some]
          by_cases h32 : out.getLast?.getD 0 = 32
          · rw [if_pos h32]; exact next 98 h98 (fun e => by omega)
          · rw [if_neg h32]
            have hmem : out.getLast?.getD 0 ∈ out := by
              rw [List.getLast?_eq_getElem?, getD_some (by omega)]
              exact List.mem_iff_getElem?.2 ⟨out.length - 1, getD_some (by omega)⟩
            exact next y hyc (fun _ => ⟨fun e => hn (by rw [e]; rfl), fun e => h32 ((ch_cls (hc _ hmem)).1.1 e)⟩)
      · rw [if_neg hy9]
        exact next y hyc (fun e => absurd e hy9)
    · rw [if_neg (by omega)]
      exact ⟨out, rfl, by omega, hw, hc⟩
theorem words_ix : ∀ (x : Int) (l t : List Int), WordsAt breakC x l t → ∀ i, i < l.length → t[i]? = some (if breakC ((x :: l).getD i 0) = 5 ∧ breakC (l.getD i 0) ≠ 5 then 1 else 0)
  | _, [], _, _, i, hi => by simp at hi
  | x, y :: l, [], h, _, _ => by cases h
  | x, y :: l, v :: t, h, i, hi => by
    obtain ⟨h1, h2⟩ := h
    cases i with
    | zero => simp only [List.getElem?_cons_zero]; rw [h1]; rfl
    | succ i =>
      have := words_ix y l t h2 i (by simpa using hi)
      simpa using this
theorem words_L2 {N : Nat} {l b : List Int} (hl : l.length ≤ 1000) (hc : ∀ x ∈ l, CH x) (hb : ∀ i, i + 1 < l.length → b[i + 1]? = some (if breakC (l.getD i 0) = 5 ∧ breakC (l.getD (i + 1) 0) ≠ 5 then 1 else 0)) : ∀ (f i : Nat), l.length - i < f → fWords_L2 N l b f ((i + 1 : Nat) : Int) = some (Ctl.go ())
  | 0, i, h => by omega
  | f + 1, i, hf => by
    unfold fWords_L2
    by_cases h : i + 1 < l.length
    · have ih := words_L2 (N := N) hl hc hb f (i + 1) (by omega)
      have hv := hb i h
      have h1 := getD_some (show i < l.length by omega)
      have h2 := getD_some h
      have c1 := (ch_cls (hc _ (List.mem_iff_getElem?.2 ⟨_, h1⟩))).1
      have c2 := (ch_cls (hc _ (List.mem_iff_getElem?.2 ⟨_, h2⟩))).1
      have e1 : IntKind.i64.wrap (((i + 1 : Nat) : Int) - 1) = (i : Int) := by rw [w64s (by omega) (by omega)]; omega
      have e2 : IntKind.i64.wrap (((i + 1 : Nat) : Int) + 1) = ((i + 1 + 1 : Nat) : Int) := by rw [w64s (by omega) (by omega)]; omega
      rw [if_pos (by omega), e1, e2, ix_nat h1, ix_nat h2, ix_nat hv]
      simp only [Option.bind_some]
      rw [ih]
      by_cases a1 : l.getD i 0 = 32
      · have := c1.2 a1
        by_cases a2 : l.getD (i + 1) 0 = 32
        · rw [if_pos a1, if_neg (fun h => h a2), if_neg (fun h => h.2 (c2.2 a2))]; rfl
        · have n2 : ¬ breakC (l.getD (i + 1) 0) = 5 := fun h => a2 (c2.1 h)
          rw [if_pos a1, if_pos a2, if_pos ⟨this, n2⟩]; rfl
      · have n1 : ¬ breakC (l.getD i 0) = 5 := fun h => a1 (c1.1 h)
        rw [if_neg a1, if_neg (fun h => n1 h.1)]; rfl
    · rw [if_neg (by omega)]
theorem fWords_true {N : Nat} {p : List Int} (hN : 2000 ≤ N) (hp : ∀ x ∈ p, 0 ≤ x) : fWords N p = some true := by
  unfold fWords
  rw [kWorks_true (by omega)]
  by_cases h : (p.length : Int) > 400
  · rw [if_pos h]; rfl
  obtain ⟨r, h1, h2, h3, h4⟩ := words_L1 (N := N) (p := p) (by omega) hp N 0 [] (by omega) (by simp) trivial (by simp)
  rw [show ((0 : Nat) : Int) = 0 from rfl] at h1
  simp only [List.length_nil, Nat.zero_add, Nat.sub_zero] at h2
  rw [if_neg h, h1, Option.bind_some, pBreaks_ly (by omega) (by omega) (by omega), Option.bind_some, brk_len', w64s (by omega) (by omega), if_neg (by omega)]
  have hb : ∀ i, i + 1 < r.length → (brk breakC wdC r)[i + 1]? = some (if breakC (r.getD i 0) = 5 ∧ breakC (r.getD (i + 1) 0) ≠ 5 then 1 else 0) := by
    intro i hi
    cases r with
    | nil => simp at hi
    | cons x t =>
      obtain ⟨z, hz, hz2, hz3⟩ := brk_words (cls := breakC) (wd := wdC) x t h3.1 h3.2
      have hi' : i < t.length := by simpa using hi
      rw [hz, List.getElem?_cons_succ, List.getElem?_append_left (by omega), words_ix x t z hz3 i hi']
      rfl
  have := words_L2 (N := N) (by omega) h4 hb N 0 (by omega)
  rw [show ((0 + 1 : Nat) : Int) = 1 from rfl] at this
  rw [this]; rfl
theorem fWords_true' (x : List Int) (h : ∀ z ∈ x, 0 ≤ z ∧ z ≤ 255) : ∃ N, fWords N x = some true := ⟨2000, fWords_true (Nat.le_refl _) (fun z hz => (h z hz).1)⟩
end Go.Proofs.Ytdbimchiecdkoaa
