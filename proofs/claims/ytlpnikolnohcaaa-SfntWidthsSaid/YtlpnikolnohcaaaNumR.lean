/-
  The document's numbers at a place.
-/
import Derived.Test.YtlpnikolnohcaaaOr
import Derived.Test.YtlpnikolnohcaaaAll
namespace Go.Proofs.Ytlpnikolnohcaaa
open Go Go.RowKit

/-- the number of n bytes from a place on -/
def numF (l : List Int) (p : Nat) : Nat → Int
  | 0 => 0
  | n + 1 => numF l p n * 256 + l.getD (p + n) 0

/-- .. or 0, if they are not all there -/
def numAt (l : List Int) (p : Int) (n : Nat) : Int := if allB l.length p n = true then numF l p.toNat n else 0

theorem getD_b {l : List Int} (hA : AllB l) (j : Nat) : 0 ≤ l.getD j 0 ∧ l.getD j 0 ≤ 255 := by
  rw [List.getD_eq_getElem?_getD]
  cases hj : l[j]? with
  | none => simp
  | some x => exact hA x (List.mem_of_getElem? hj)

theorem numF_b {l : List Int} (hA : AllB l) (p : Nat) : ∀ n, 0 ≤ numF l p n ∧ numF l p n < 256 ^ n := by
  intro n
  induction n with
  | zero => simp [numF]
  | succ n ih =>
    have h := getD_b hA (p + n)
    rw [numF, Int.pow_succ]
    omega

theorem numAt_b {l : List Int} (hA : AllB l) (p : Int) (n : Nat) : 0 ≤ numAt l p n ∧ numAt l p n < 256 ^ n := by
  unfold numAt
  split
  · exact numF_b hA _ n
  · have h : (0 : Int) < 256 ^ n := Int.pow_pos (by decide)
    exact ⟨Int.le_refl _, h⟩

def NRel (w : World) (l : List Int) (p n k : Nat) (vx vi : Value) (wr : World) : Prop := ∃ i : Nat, i + k = n ∧ vi = .int .i64 (i : Int) ∧ vx = .int .u32 (numF l p i) ∧ wr.heap = w.heap ∧ Below w.heap.size w wr

set_option maxHeartbeats 4000000 in
set_option maxRecDepth 20000 in
theorem number_any (w : World) (v : Value) (l : List Int) (hv : NumZ .u8 w v l) (hA : AllB l) (hl : l.length ≤ 1000000) (p : Int) (n : Nat) (hn : n ≤ 4) :
    Calls Try.prog 56 #[v, .int .i64 p, .int .i64 (n : Int)] w fun e w' => e = .returned (.int .u32 (numAt l p n)) ∧ Below w.heap.size w w' := by
  have HV := Lib.hid hv
  obtain ⟨A, c, rfl, _, _, _⟩ := hv
  rename_i g1 g2 g3
  have HAL := all_any w A l.length c (by omega) p n
  by_cases ha : allB l.length p n = true
  · have ha' := ha
    unfold allB at ha'
    rw [decide_eq_true_eq] at ha'
    rw [ha] at HAL
    have HAL := Lib.hid HAL
    obtain ⟨q, rfl⟩ := Int.eq_ofNat_of_zero_le ha'.1
    have HR : Hid (numAt l (q : Int) n = numF l q n) := Lib.hid (by unfold numAt; rw [if_pos ha]; rfl)
    have hqn : q + n ≤ l.length := by omega
    generalize numAt l (q : Int) n = R at HR ⊢
    obtain ⟨N, hN⟩ : ∃ N, N = l.length := ⟨_, rfl⟩
    have HN := Lib.hid hN
    have HAA := Lib.hid hA
    rw [← hN] at HAL HV hqn hl ⊢
    have HQN := Lib.hid hqn
    have HNB : Hid (∀ i, 0 ≤ numF l q i ∧ numF l q i < 256 ^ i) := Lib.hid (fun i => numF_b hA q i)
    clear g1 g2 g3 ha ha' hN hA hqn
    go_enter Try.func56, Try.ntmps56
    go_wp2_with fail
    refine (HAL.out).mono ?_
    rintro e w0 ⟨rfl, rfl⟩
    go_wp2_with fail
    go_loopg [7, 8] n (fun k vx vi wr => NRel w l q n k vx vi wr)
    case atStart => exact ⟨0, by omega, rfl, rfl, rfl, Below.refl _ _⟩
    case round =>
      obtain ⟨i, hik, rfl, rfl, hh, hb⟩ := hrel
      have HB := Lib.hid hb
      have HH := Lib.hid hh
      have HIK := Lib.hid hik
      by_cases hi : i = n
      · have bi : ((i : Int) < (n : Int)) = False := eq_false (by omega)
        have HE : Hid (numF l q i = R) := Lib.hid (by rw [hi, HR.out])
        generalize numF l q i = x at HE ⊢
        clear hi hik hb hh
        go_wp2_with fail
        go_ret
        exact ⟨by rw [HE.out]; rfl, HB.out⟩
      · have bi : ((i : Int) < (n : Int)) = True := eq_true (by omega)
        have hil : q + i < l.length := by have := HQN.out; have := HN.out; omega
        obtain ⟨g, off, rfl, _, hc⟩ := (HV.out.below hb).cells (by rintro rfl; simp at hil)
        have cx := hc (q + i) hil
        have hxb := HAA.out.get (q + i) hil
        have hnx : numF l q (i + 1) = numF l q i * 256 + l[q + i] := by rw [numF]; simp [hil]
        obtain ⟨x, hx⟩ : ∃ x, x = l[q + i] := ⟨_, rfl⟩
        rw [← hx] at cx hxb hnx
        have h1 := HNB.out i
        have h2 := HNB.out (i + 1)
        have hi4 : i + 1 ≤ 4 := by omega
        have hpow : (256 : Int) ^ (i + 1) ≤ 4294967296 := by
          rcases (show i = 0 ∨ i = 1 ∨ i = 2 ∨ i = 3 by omega) with rfl | rfl | rfl | rfl <;> decide
        obtain ⟨y, hy⟩ : ∃ y, y = numF l q i := ⟨_, rfl⟩
        rw [← hy] at hnx h1 ⊢
        obtain ⟨z, hz⟩ : ∃ z, z = numF l q (i + 1) := ⟨_, rfl⟩
        rw [← hz] at hnx h2
        have hz32 : z < 4294967296 := Int.lt_of_lt_of_le h2.2 hpow
        have hy32 : y * 256 < 4294967296 := by omega
        obtain ⟨qi, hqi⟩ : ∃ qi, qi = q + i := ⟨_, rfl⟩
        obtain ⟨i1, hi1⟩ : ∃ i1, i1 = i + 1 := ⟨_, rfl⟩
        rw [← hqi] at cx
        have hz0 := h2.1
        have hy0 := h1.1
        clear h1 h2 hpow
        have u1 : IntKind.u32.wrap (y * 256) = y * 256 := by rw [wrap_u32]; omega
        have u2 : IntKind.u32.wrap x = x := by rw [wrap_u32]; omega
        have u3 : IntKind.u32.wrap (y * 256 + x) = z := by rw [wrap_u32]; omega
        have q1 : IntKind.i64.wrap ((q : Int) + (i : Int)) = (qi : Int) := by rw [IntKind.wrap_i64]; have := HN.out; omega
        have q2 : IntKind.i64.wrap ((i : Int) + 1) = (i1 : Int) := by rw [IntKind.wrap_i64]; omega
        have i0 : (0 : Int) ≤ (qi : Int) := Int.natCast_nonneg _
        have iN : (qi : Int) < (N : Int) := by have := HN.out; omega
        have HI1 := Lib.hid hi1
        have HZ := Lib.hid hz
        have HIN := Lib.hid hi
        clear hi hik hb hh hc hx hxb hnx hz0 hy0 hi4 hz32 hy32 hy hz hqi hi1 hil
        go_wp2_with fail
        go_roundg (gk - 1)
        case measure => have := HIK.out; have := HIN.out; omega
        case rel => exact ⟨i1, by have := HIK.out; have := HIN.out; have := HI1.out; omega, by first | rfl | exact congrArg _ (by omega), by rw [HI1.out, ← HZ.out], HH.out, HB.out⟩
  · have hR : allB l.length p n = false := by simpa using ha
    rw [hR] at HAL
    have HAL := Lib.hid HAL
    have HR : Hid (numAt l p n = 0) := Lib.hid (by unfold numAt; rw [if_neg ha])
    generalize numAt l p n = R at HR ⊢
    clear g1 g2 g3 hA ha hR HV
    generalize l.length = N at HAL ⊢
    go_enter Try.func56, Try.ntmps56
    go_wp2_with fail
    refine (HAL.out).mono ?_
    rintro e w0 ⟨rfl, rfl⟩
    go_wp2_with fail
    go_ret
    exact ⟨by rw [HR.out]; rfl, Below.refl _ _⟩

set_option maxRecDepth 20000 in
theorem w_any (w : World) (v : Value) (l : List Int) (hv : NumZ .u8 w v l) (hA : AllB l) (hl : l.length ≤ 1000000) (p : Int) :
    Calls Try.prog 25 #[v, .int .i64 p] w fun e w' => e = .returned (.int .i64 (numAt l p 2)) ∧ Below w.heap.size w w' := by
  have HH := Lib.hid (number_any w v l hv hA hl p 2 (by decide))
  have hb := numAt_b hA p 2
  generalize numAt l p 2 = R at HH hb ⊢
  have q1 : IntKind.i64.wrap R = R := by rw [IntKind.wrap_i64]; omega
  clear hb hv hA hl
  go_enter Try.func25, Try.ntmps25
  go_wp2_with fail
  refine (HH.out).mono ?_
  rintro e w0 ⟨rfl, hb⟩
  go_wp2_with fail
  go_ret
  exact ⟨rfl, hb⟩

set_option maxRecDepth 20000 in
theorem l_any (w : World) (v : Value) (l : List Int) (hv : NumZ .u8 w v l) (hA : AllB l) (hl : l.length ≤ 1000000) (p : Int) :
    Calls Try.prog 27 #[v, .int .i64 p] w fun e w' => e = .returned (.int .i64 (numAt l p 4)) ∧ Below w.heap.size w w' := by
  have HH := Lib.hid (number_any w v l hv hA hl p 4 (by decide))
  have hb := numAt_b hA p 4
  generalize numAt l p 4 = R at HH hb ⊢
  have q1 : IntKind.i64.wrap R = R := by rw [IntKind.wrap_i64]; omega
  clear hb hv hA hl
  go_enter Try.func27, Try.ntmps27
  go_wp2_with fail
  refine (HH.out).mono ?_
  rintro e w0 ⟨rfl, hb⟩
  go_wp2_with fail
  go_ret
  exact ⟨rfl, hb⟩

set_option maxRecDepth 20000 in
theorem s_any (w : World) (v : Value) (l : List Int) (hv : NumZ .u8 w v l) (hA : AllB l) (hl : l.length ≤ 1000000) (p : Int) :
    Calls Try.prog 45 #[v, .int .i64 p] w fun e w' => e = .returned (.int .i64 (IntKind.i16.wrap (numAt l p 2))) ∧ Below w.heap.size w w' := by
  have HH := Lib.hid (number_any w v l hv hA hl p 2 (by decide))
  generalize numAt l p 2 = R at HH ⊢
  obtain ⟨V, hV⟩ : ∃ V, V = IntKind.i16.wrap R := ⟨_, rfl⟩
  have q0 : IntKind.i16.wrap R = V := hV.symm
  have q1 : IntKind.i64.wrap V = V := by rw [IntKind.wrap_i64, hV, wrap_i16]; omega
  rw [← hV]
  clear hv hA hl hV
  go_enter Try.func45, Try.ntmps45
  go_wp2_with fail
  refine (HH.out).mono ?_
  rintro e w0 ⟨rfl, hb⟩
  go_wp2_with fail
  go_ret
  exact ⟨rfl, hb⟩
end Go.Proofs.Ytlpnikolnohcaaa
