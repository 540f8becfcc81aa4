/-
  The document's clusters: class, ends, joined, odd.
-/
import Derived.Test.YtjlencmoobanoaaPure
import Derived.Deep.RegionHeld3
namespace Go.Proofs.Ytjlencmoobanoaa
open Go Go.RowKit

set_option maxRecDepth 20000 in
theorem refClassI_any (T : List (Int × Int × Int)) (hT : TabC T) (r : Int) (hr : I32 r) (w : World) : Calls Try.prog 20 #[.int .i32 r] w fun e w' => e = .returned (.int .i64 ((clsN T r : Nat) : Int)) ∧ Below w.heap.size w w' := by
  have hc := hT.doc r hr w
  have hl := cls_lt hT.ok r
  obtain ⟨c, hcc⟩ : ∃ c, c = clsN T r := ⟨_, rfl⟩
  rw [← hcc] at hc hl ⊢
  have q1 : IntKind.i64.wrap (c : Int) = (c : Int) := by rw [IntKind.wrap_i64]; omega
  have HC := Lib.hid hc
  clear hc hcc hT hr
  go_enter Try.func20, Try.ntmps20
  go_wp2_with fail
  refine (HC.out).mono ?_
  rintro e w1 ⟨rfl, hb⟩
  go_wp2_with fail
  go_ret
  exact ⟨rfl, hb⟩

set_option maxRecDepth 20000 in
theorem refEnds_any (c : Nat) (hc : c < 14) (w : World) : Calls Try.prog 21 #[.int .i64 (c : Int)] w fun e w' => e = .returned (.bool (endsN c)) ∧ w = w' := by
  rcases (show c = 1 ∨ c = 2 ∨ c = 3 ∨ (c ≠ 1 ∧ c ≠ 2 ∧ c ≠ 3) by omega) with rfl | rfl | rfl | ⟨h1, h2, h3⟩
  · go_enter Try.func21, Try.ntmps21
    go_wp2_with fail
    go_ret
    exact ⟨rfl, rfl⟩
  · go_enter Try.func21, Try.ntmps21
    go_wp2_with fail
    go_ret
    exact ⟨rfl, rfl⟩
  · go_enter Try.func21, Try.ntmps21
    go_wp2_with fail
    go_ret
    exact ⟨rfl, rfl⟩
  · have b1 : ((c : Int) == 1) = false := by simp; omega
    have b2 : ((c : Int) == 2) = false := by simp; omega
    have b3 : ((c : Int) == 3) = false := by simp; omega
    have HE : Hid (endsN c = false) := Lib.hid (by simp [endsN, h1, h2, h3])
    generalize endsN c = z at HE ⊢
    clear h1 h2 h3
    go_enter Try.func21, Try.ntmps21
    go_wp2_with fail
    go_ret
    exact ⟨by rw [HE.out]; rfl, rfl⟩

/-- classes of runes -/
def clsL (T : List (Int × Int × Int)) (l : List Int) : List Nat := l.map (clsN T)

/-- all are runes -/
def AllR (l : List Int) : Prop := ∀ r ∈ l, I32 r

def JoinRel (w : World) (C : List Nat) (n : Nat) (k : Nat) (vi : Value) (wr : World) : Prop :=
  k ≤ n ∧ vi = .int .i64 ((k : Int) - 1) ∧ Below w.heap.size w wr ∧ extPict (C.take n).reverse = extPict (C.take k).reverse

set_option maxHeartbeats 2000000 in
set_option maxRecDepth 20000 in
theorem refJoined_any (T : List (Int × Int × Int)) (hT : TabC T) (l : List Int) (hl : AllR l) (A : Option Addr) (g off cap N : Nat) (hN : N = l.length) (hA : A = some ⟨g, off, none⟩) (w : World) (hcell : ∀ (j : Nat) (h : j < l.length), w.cell? ⟨g, off + j, none⟩ = some (.int .i32 l[j])) (i : Nat) (hi : i < N) (hi1 : 1 ≤ i) (hN2 : N ≤ 1000000) :
    Calls Try.prog 22 #[.slice A N cap, .int .i64 (i : Int)] w fun e w' => e = .returned (.bool (extPict ((clsL T l).take (i - 1)).reverse)) ∧ Below w.heap.size w w' := by
  subst hA
  obtain ⟨n, hn⟩ : ∃ n, n = i - 1 := ⟨_, rfl⟩
  rw [← hn]
  obtain ⟨C, hC⟩ : ∃ C, C = clsL T l := ⟨_, rfl⟩
  obtain ⟨R, hR⟩ : ∃ R, R = extPict (C.take n).reverse := ⟨_, rfl⟩
  rw [← hC, ← hR]
  have HC := Lib.hid hC
  have HR := Lib.hid hR
  have HN := Lib.hid hN
  have HCE := Lib.hid hcell
  have HT := Lib.hid hT
  have HL := Lib.hid hl
  have q0 : IntKind.i64.wrap ((i : Int) - 2) = (n : Int) - 1 := by rw [IntKind.wrap_i64]; omega
  have hnN : n < N := by omega
  clear hC hR hN hcell hT hl hn hi hi1
  go_enter Try.func22, Try.ntmps22
  go_wp2_with fail
  go_loopg [5] n (fun k vi wr => JoinRel w C n k vi wr)
  case atStart => exact ⟨Nat.le_refl _, rfl, Below.refl _ _, rfl⟩
  case round =>
    obtain ⟨hkn, rfl, hb, hf⟩ := hrel
    have HF := Lib.hid hf
    have HB := Lib.hid hb
    clear hf hb
    rcases Nat.eq_zero_or_pos gk with h0 | h0
    · obtain rfl := h0
      have b1 : ((0 : Int) ≤ ((0 : Nat) : Int) - 1) = False := by simp
      have HE : Hid (R = false) := Lib.hid (by rw [HR.out, HF.out]; rfl)
      go_wp2_with fail
      go_ret
      exact ⟨by rw [HE.out]; rfl, HB.out⟩
    · obtain ⟨m, rfl⟩ : ∃ m, gk = m + 1 := ⟨gk - 1, by omega⟩
      have hmN : m < N := by omega
      have hml : m < l.length := by have := HN.out; omega
      have c1 := HCE.out m hml
      have hbk := World.block_lt_of_cell? w _ c1
      have c2 : wr.cell? ⟨g, off + m, none⟩ = some (.int .i32 l[m]) := by rw [HB.out.cell (by exact hbk)]; exact c1
      obtain ⟨x, hx⟩ : ∃ x, x = l[m] := ⟨_, rfl⟩
      rw [← hx] at c2
      have HX := Lib.hid (refClassI_any T HT.out x (by rw [hx]; exact HL.out _ (List.getElem_mem _)))
      obtain ⟨c, hc⟩ : ∃ c, c = clsN T x := ⟨_, rfl⟩
      simp only [← hc] at HX
      have hd : extPict (C.take (m + 1)).reverse = if c = 4 then extPict (C.take m).reverse else decide (c = 13) := by
        have hmC : m < C.length := by rw [HC.out]; simp [clsL, hml]
        have e : C[m] = c := by
          have : C[m]? = some (clsN T l[m]) := by rw [HC.out]; simp [clsL, hml]
          rw [List.getElem?_eq_getElem hmC] at this
          rw [hc, hx]; exact Option.some.inj this
        rw [take_rev C m hmC, extPict, e]
      have HD := Lib.hid hd
      have b1 : ((0 : Int) ≤ ((m + 1 : Nat) : Int) - 1) = True := by simp
      have q1 : ((m + 1 : Nat) : Int) - 1 = (m : Int) := by omega
      have hmI : (m : Int) < (N : Int) := by omega
      have hm0 : (0 : Int) ≤ (m : Int) := Int.natCast_nonneg _
      rw [q1] at b1 ⊢
      clear c1 hx hc hd q1 hbk
      by_cases h4 : c = 4
      · have HNX : Hid (extPict (C.take n).reverse = extPict (C.take m).reverse) := Lib.hid (by rw [HF.out, HD.out, if_pos h4])
        have b2 : ((c : Int) == 4) = true := by simp; omega
        have q2 : IntKind.i64.wrap ((m : Int) - 1) = (m : Int) - 1 := by rw [IntKind.wrap_i64]; omega
        clear h4
        go_wp2_with fail
        refine (HX.out _).mono ?_
        rintro e w1 ⟨rfl, hb1⟩
        have HB1 := Lib.hid (HB.out.trans (hb1.mono HB.out.size))
        clear hb1
        go_wp2_with fail
        go_roundg m
        case measure => omega
        case rel => exact ⟨by omega, rfl, HB1.out, HNX.out⟩
      · have HE : Hid (R = decide (c = 13)) := Lib.hid (by rw [HR.out, HF.out, HD.out, if_neg h4])
        have b2 : ((c : Int) == 4) = false := by simp; omega
        clear h4
        go_wp2_with fail
        refine (HX.out _).mono ?_
        rintro e w1 ⟨rfl, hb1⟩
        have HB1 := Lib.hid (HB.out.trans (hb1.mono HB.out.size))
        have c3 : w1.cell? ⟨g, off + m, none⟩ = some (.int .i32 x) := by rw [hb1.cell (World.block_lt_of_cell? wr _ c2)]; exact c2
        clear hb1
        by_cases h13 : c = 13
        · have b3 : ((c : Int) == 13) = true := by simp; omega
          have HE2 : Hid (R = true) := Lib.hid (by rw [HE.out]; simp [h13])
          clear h13
          go_wp2_with fail
          refine (HX.out _).mono ?_
          rintro e w2 ⟨rfl, hb2⟩
          have HB2 := Lib.hid (HB1.out.trans (hb2.mono HB1.out.size))
          clear hb2
          go_wp2_with fail
          go_ret
          exact ⟨by rw [HE2.out]; rfl, HB2.out⟩
        · have b3 : ((c : Int) == 13) = false := by simp; omega
          have HE2 : Hid (R = false) := Lib.hid (by rw [HE.out]; simp [h13])
          clear h13
          go_wp2_with fail
          refine (HX.out _).mono ?_
          rintro e w2 ⟨rfl, hb2⟩
          have HB2 := Lib.hid (HB1.out.trans (hb2.mono HB1.out.size))
          clear hb2
          go_wp2_with fail
          go_ret
          exact ⟨by rw [HE2.out]; rfl, HB2.out⟩

def OddRel (w : World) (C : List Nat) (n : Nat) (k : Nat) (vn vi : Value) (wr : World) : Prop :=
  ∃ m : Nat, m + k = n ∧ vn = .int .i64 (m : Int) ∧ vi = .int .i64 ((k : Int) - 1) ∧ Below w.heap.size w wr ∧ oddR (C.take n).reverse = (decide (m % 2 = 1) != oddR (C.take k).reverse)

theorem odd_next (m : Nat) (b : Bool) : (decide (m % 2 = 1) != !b) = (decide ((m + 1) % 2 = 1) != b) := by
  rcases (show m % 2 = 0 ∨ m % 2 = 1 by omega) with h | h
  · have : (m + 1) % 2 = 1 := by omega
    simp [h, this]
  · have : (m + 1) % 2 = 0 := by omega
    simp [h, this]

set_option maxHeartbeats 2000000 in
set_option maxRecDepth 20000 in
theorem refOdd_any (T : List (Int × Int × Int)) (hT : TabC T) (l : List Int) (hl : AllR l) (A : Option Addr) (g off cap N : Nat) (hN : N = l.length) (hA : A = some ⟨g, off, none⟩) (w : World) (hcell : ∀ (j : Nat) (h : j < l.length), w.cell? ⟨g, off + j, none⟩ = some (.int .i32 l[j])) (i : Nat) (hi : i < N) (hN2 : N ≤ 1000000) :
    Calls Try.prog 23 #[.slice A N cap, .int .i64 (i : Int)] w fun e w' => e = .returned (.bool (oddR ((clsL T l).take i).reverse)) ∧ Below w.heap.size w w' := by
  subst hA
  obtain ⟨C, hC⟩ : ∃ C, C = clsL T l := ⟨_, rfl⟩
  obtain ⟨R, hR⟩ : ∃ R, R = oddR (C.take i).reverse := ⟨_, rfl⟩
  rw [← hC, ← hR]
  have HC := Lib.hid hC
  have HR := Lib.hid hR
  have HN := Lib.hid hN
  have HCE := Lib.hid hcell
  have HT := Lib.hid hT
  have HL := Lib.hid hl
  have q0 : IntKind.i64.wrap ((i : Int) - 1) = (i : Int) - 1 := by rw [IntKind.wrap_i64]; omega
  clear hC hR hN hcell hT hl
  go_enter Try.func23, Try.ntmps23
  go_wp2_with fail
  clear q0
  go_loopg [5, 6] i (fun k vn vi wr => OddRel w C i k vn vi wr)
  case atStart => exact ⟨0, by omega, rfl, rfl, Below.refl _ _, by simp⟩
  case round =>
    obtain ⟨m, hmk, rfl, rfl, hb, hf⟩ := hrel
    have HF := Lib.hid hf
    have HB := Lib.hid hb
    clear hf hb
    obtain ⟨p, hp⟩ : ∃ p, p = m % 2 := ⟨_, rfl⟩
    have hm0 : (0 : Int) ≤ (m : Int) := Int.natCast_nonneg _
    have q5 : (m : Int) % 2 = (p : Int) := by omega
    have hpc : p = 0 ∨ p = 1 := by omega
    have HP := Lib.hid hp
    rcases Nat.eq_zero_or_pos gk with h0 | h0
    · obtain rfl := h0
      have b1 : ((0 : Int) ≤ ((0 : Nat) : Int) - 1) = False := by simp
      have HE : Hid (R = decide (p = 1)) := Lib.hid (by rw [HR.out, HF.out, HP.out]; simp [oddR])
      clear hp
      rcases hpc with rfl | rfl
      · go_wp2_with fail
        go_ret
        exact ⟨by rw [HE.out]; rfl, HB.out⟩
      · go_wp2_with fail
        go_ret
        exact ⟨by rw [HE.out]; rfl, HB.out⟩
    · obtain ⟨k, rfl⟩ : ∃ k, gk = k + 1 := ⟨gk - 1, by omega⟩
      have hkN : k < N := by omega
      have hkl : k < l.length := by have := HN.out; omega
      have c1 := HCE.out k hkl
      have hbk := World.block_lt_of_cell? w _ c1
      have c2 : wr.cell? ⟨g, off + k, none⟩ = some (.int .i32 l[k]) := by rw [HB.out.cell (by exact hbk)]; exact c1
      obtain ⟨x, hx⟩ : ∃ x, x = l[k] := ⟨_, rfl⟩
      rw [← hx] at c2
      have HX := Lib.hid (refClassI_any T HT.out x (by rw [hx]; exact HL.out _ (List.getElem_mem _)))
      obtain ⟨c, hc⟩ : ∃ c, c = clsN T x := ⟨_, rfl⟩
      simp only [← hc] at HX
      have hd : oddR (C.take (k + 1)).reverse = if c = 6 then !oddR (C.take k).reverse else false := by
        have hkC : k < C.length := by rw [HC.out]; simp [clsL, hkl]
        have e : C[k] = c := by
          have : C[k]? = some (clsN T l[k]) := by rw [HC.out]; simp [clsL, hkl]
          rw [List.getElem?_eq_getElem hkC] at this
          rw [hc, hx]; exact Option.some.inj this
        rw [take_rev C k hkC, oddR, e]
      have HD := Lib.hid hd
      have b1 : ((0 : Int) ≤ ((k + 1 : Nat) : Int) - 1) = True := by simp
      have q1 : ((k + 1 : Nat) : Int) - 1 = (k : Int) := by omega
      have hkI : (k : Int) < (N : Int) := by omega
      have hk0 : (0 : Int) ≤ (k : Int) := Int.natCast_nonneg _
      rw [q1] at b1 ⊢
      clear c1 hx hc hd q1 hbk hp
      by_cases h6 : c = 6
      · have HNX : Hid (oddR (C.take i).reverse = (decide ((m + 1) % 2 = 1) != oddR (C.take k).reverse)) := Lib.hid (by rw [HF.out, HD.out, if_pos h6, odd_next])
        have b2 : ((c : Int) == 6) = true := by simp; omega
        have q2 : IntKind.i64.wrap ((k : Int) - 1) = (k : Int) - 1 := by rw [IntKind.wrap_i64]; omega
        have q3 : IntKind.i64.wrap ((m : Int) + 1) = ((m + 1 : Nat) : Int) := by rw [IntKind.wrap_i64]; omega
        clear h6 q5 hpc
        go_wp2_with fail
        refine (HX.out _).mono ?_
        rintro e w1 ⟨rfl, hb1⟩
        have HB1 := Lib.hid (HB.out.trans (hb1.mono HB.out.size))
        clear hb1
        go_wp2_with fail
        go_roundg k
        case measure => omega
        case rel => exact ⟨m + 1, by omega, by first | rfl | exact congrArg _ (by omega), rfl, HB1.out, HNX.out⟩
      · have HE : Hid (R = decide (p = 1)) := Lib.hid (by rw [HR.out, HF.out, HD.out, if_neg h6, HP.out]; simp)
        have b2 : ((c : Int) == 6) = false := by simp; omega
        clear h6
        rcases hpc with rfl | rfl
        · go_wp2_with fail
          refine (HX.out _).mono ?_
          rintro e w1 ⟨rfl, hb1⟩
          have HB1 := Lib.hid (HB.out.trans (hb1.mono HB.out.size))
          clear hb1
          go_wp2_with fail
          go_ret
          exact ⟨by rw [HE.out]; rfl, HB1.out⟩
        · go_wp2_with fail
          refine (HX.out _).mono ?_
          rintro e w1 ⟨rfl, hb1⟩
          have HB1 := Lib.hid (HB.out.trans (hb1.mono HB.out.size))
          clear hb1
          go_wp2_with fail
          go_ret
          exact ⟨by rw [HE.out]; rfl, HB1.out⟩
end Go.Proofs.Ytjlencmoobanoaa
