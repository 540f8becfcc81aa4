/-
  sfnt.sum: a table's sum. Pieces of bytes.
-/
import Derived.Test.YtlpnikolnohcaaaSumT
import Derived.Test.YtlpnikolnohcaaaBef
namespace Go.Proofs.Ytlpnikolnohcaaa
open Go Go.RowKit

theorem sizeB (w : World) : (Go.sizeOf 5).run Try.prog w = .ok 1 w := by kernel_rfl

/-- a piece of bytes, as a value -/
def cutV (A : Option Addr) (s t c : Nat) : Value := .slice (if c = s then A else A.map (·.add (s * 1))) (t - s) (c - s)

theorem run_cut_lh (W : World) (A : Option Addr) (N c s t : Nat) (hst : s ≤ t) (htc : t ≤ c) :
    (Instr.slice 22 (.slice A N c) (some (.int .i64 (s : Int))) (some (.int .i64 (t : Int))) none).run Try.prog W = .ok (cutV A s t c) W := by
  have ht' : Try.prog.underlying 22 = some (.slice (Try.prog.elem 22)) := by simp [Program.elem, Try.underlying22]
  have he : Try.prog.elem 22 = 5 := by simp [Program.elem, Try.underlying22]
  rw [run_slice_lh W _ _ _ _ ht' .i64 .i64 _ _ (by omega) (by omega) (by omega), he, sizeB]
  simp [sliced, cutV]

theorem run_cut_h (W : World) (A : Option Addr) (N c t : Nat) (htc : t ≤ c) :
    (Instr.slice 22 (.slice A N c) none (some (.int .i64 (t : Int))) none).run Try.prog W = .ok (cutV A 0 t c) W := by
  have ht' : Try.prog.underlying 22 = some (.slice (Try.prog.elem 22)) := by simp [Program.elem, Try.underlying22]
  have he : Try.prog.elem 22 = 5 := by simp [Program.elem, Try.underlying22]
  rw [run_slice_h W _ _ _ _ ht' .i64 _ (by omega) (by omega), he, sizeB]
  simp [sliced, cutV]

theorem run_cut_l (W : World) (A : Option Addr) (N c s : Nat) (hs : s ≤ N) :
    (Instr.slice 22 (.slice A N c) (some (.int .i64 (s : Int))) none none).run Try.prog W = .ok (cutV A s N c) W := by
  have ht' : Try.prog.underlying 22 = some (.slice (Try.prog.elem 22)) := by simp [Program.elem, Try.underlying22]
  have he : Try.prog.elem 22 = 5 := by simp [Program.elem, Try.underlying22]
  rw [run_slice_l W _ _ _ _ ht' .i64 _ (by omega) (by omega), he, sizeB]
  simp [sliced, cutV]

theorem cut_num {w : World} {A : Option Addr} {N c : Nat} {l : List Int} (hv : NumZ .u8 w (.slice A N c) l) (s t : Nat) (hst : s ≤ t) (ht : t ≤ l.length) : NumZ .u8 w (cutV A s t c) ((l.drop s).take (t - s)) := by
  obtain ⟨A', c', e, h1, h2, hx⟩ := hv
  injection e with e1 e2 e3
  subst e1 e2 e3
  have hpl : ((l.drop s).take (t - s)).length = t - s := by simp; omega
  refine ⟨_, _, by rw [hpl]; rfl, by rw [hpl]; omega, by omega, fun hne => ?_⟩
  have hst' : s < t := by
    rcases Nat.lt_or_ge s t with h | h
    · exact h
    · exact absurd (List.length_eq_zero_iff.1 (by rw [hpl]; omega)) hne
  obtain ⟨g, off, rfl, hg, hc⟩ := hx (by rintro rfl; simp at ht; omega)
  refine ⟨g, off + s, ?_, hg, fun j hj => ?_⟩
  · rw [if_neg (by omega)]
    simp [Addr.add]
  · rw [hpl] at hj
    rw [show off + s + j = off + (s + j) by omega, hc (s + j) (by omega)]
    simp

theorem cut_nn {A : Option Addr} {N c : Nat} (hnn : ∀ n c', Value.slice A N c = .slice none n c' → n = 0 ∧ c' = 0) (s t : Nat) (htN : t ≤ N) : ∀ n c', cutV A s t c = .slice none n c' → n = 0 ∧ c' = 0 := by
  intro n c' h
  unfold cutV at h
  injection h with h1 h2 h3
  cases A with
  | none =>
    obtain ⟨e1, e2⟩ := hnn N c rfl
    omega
  | some a =>
    split at h1
    · cases h1
    · cases h1

theorem cutV_len (A : Option Addr) (s t c : Nat) : ∃ A' c', cutV A s t c = .slice A' (t - s) c' := ⟨_, _, rfl⟩

theorem piece_b {l : List Int} (h : AllB l) (s n : Nat) : AllB ((l.drop s).take n) := fun x hx => h x (List.mem_of_mem_drop (List.mem_of_mem_take hx))

theorem sumT_zeros (n : Nat) : ∀ i, sumT (List.replicate n 0) i = 0 := by
  induction n with
  | zero => intro i; rfl
  | succ n ih => intro i; rw [List.replicate_succ, sumT, ih]; simp

theorem zeroTo_parts (l : List Int) : zeroTo l 12 = l.take (min 8 l.length) ++ (List.replicate (min 12 l.length - min 8 l.length) 0 ++ l.drop (min 12 l.length)) := by
  apply List.ext_getElem
  · rw [zeroTo_len]; simp; omega
  · intro j h1 h2
    have hj : j < l.length := by rw [zeroTo_len] at h1; exact h1
    rw [zeroTo_get l 12 j hj]
    by_cases h8 : j < 8
    · rw [if_neg (by omega), List.getElem_append_left (by simp; omega), List.getElem_take]
    · rw [List.getElem_append_right (by simp; omega)]
      by_cases h12 : j < 12
      · rw [if_pos (by omega), List.getElem_append_left (by simp; omega), List.getElem_replicate]
      · rw [if_neg (by omega), List.getElem_append_right (by simp; omega), List.getElem_drop]
        congr 1
        simp; omega

theorem sumS_parts (l : List Int) : sumS (zeroTo l 12) = (sumS (l.take (min 8 l.length)) + sumS (l.drop (min 12 l.length))) % 4294967296 := by
  have h : sumT (zeroTo l 12) 0 = sumT (l.take (min 8 l.length)) 0 + sumT (l.drop (min 12 l.length)) 0 := by
    rw [zeroTo_parts, sumT_append, sumT_append, sumT_zeros, Int.zero_add]
    congr 1
    by_cases h12 : 12 ≤ l.length
    · rw [show 0 + (l.take (min 8 l.length)).length + (List.replicate (min 12 l.length - min 8 l.length) (0 : Int)).length = 0 + 4 * 3 by simp; omega, sumT_four]
    · rw [Nat.min_eq_right (show l.length ≤ 12 by omega), List.drop_length]; rfl
  unfold sumS
  rw [h]
  omega

set_option maxRecDepth 20000 in
theorem isHeadP_any (w : World) (t : List Int) (hb : AllB t) (ht : t.length = 4) : Calls Try.prog 62 #[tagV t] w fun e w' => e = .returned (.bool (decide (t = headT))) ∧ Below w.heap.size w w' := by
  have heq := fun W => eq_tags W t headT hb headT_b ht rfl
  obtain ⟨a, b, c, d, rfl⟩ : ∃ a b c d, t = [a, b, c, d] := by
    match t, ht with
    | [a, b, c, d], _ => exact ⟨a, b, c, d, rfl⟩
  obtain ⟨R, hR⟩ : ∃ R, R = decide ([a, b, c, d] = headT) := ⟨_, rfl⟩
  rw [← hR] at heq ⊢
  have heq' : ∀ W, (binOp BinOp.eql 39 (.agg #[.int .u8 a, .int .u8 b, .int .u8 c, .int .u8 d]) (.agg #[.int .u8 104, .int .u8 101, .int .u8 97, .int .u8 100])).run Try.prog W = .ok (.bool R) W := heq
  show Calls Try.prog 62 #[.agg #[.int .u8 a, .int .u8 b, .int .u8 c, .int .u8 d]] w _
  clear hR ht hb heq
  go_enter Try.func62, Try.ntmps62
  go_wp2_with fail
  go_ret
  exact ⟨rfl, below_alloc _ (Below.refl _ w)⟩

set_option maxHeartbeats 4000000 in
set_option maxRecDepth 20000 in
theorem sumP_any (w : World) (t : List Int) (ht : AllB t) (lt : t.length = 4) (v : Value) (l : List Int) (hv : NumZ .u8 w v l) (hA : AllB l) (hl : l.length ≤ 1000000) :
    Calls Try.prog 55 #[tagV t, v] w fun e w' => e = .returned (.int .u32 (sumTag t l)) ∧ Below w.heap.size w w' := by
  have HIH := Lib.hid (fun wx => isHeadP_any wx t ht lt)
  have HS : Hid (∀ wx vx m, NumZ .u8 wx vx m → AllB m → m.length ≤ 1000000 → Calls Try.prog 21 #[vx] wx fun e w' => e = .returned (.int .u32 (sumS m)) ∧ Below wx.heap.size wx w') := Lib.hid (fun wx vx m h1 h2 h3 => sum_any wx vx m h1 h2 h3)
  have HV := Lib.hid hv
  have HA := Lib.hid hA
  have HL := Lib.hid hl
  obtain ⟨a, b, c, d, rfl⟩ : ∃ a b c d, t = [a, b, c, d] := by
    match t, lt with
    | [a, b, c, d], _ => exact ⟨a, b, c, d, rfl⟩
  obtain ⟨R, hR⟩ : ∃ R, R = decide ([a, b, c, d] = headT) := ⟨_, rfl⟩
  rw [← hR] at HIH
  obtain ⟨Z, hZ⟩ : ∃ Z, Z = sumTag [a, b, c, d] l := ⟨_, rfl⟩
  rw [← hZ]
  have HZ : Hid ((R = true → Z = (sumS (l.take (min 8 l.length)) + sumS (l.drop (min 12 l.length))) % 4294967296) ∧ (R = false → Z = sumS l)) := Lib.hid (by
    rw [hZ, hR]; unfold sumTag
    constructor
    · intro h; rw [if_pos (of_decide_eq_true h), sumS_parts]
    · intro h; rw [if_neg (of_decide_eq_false h)])
  have HIH2 : Hid (∀ wx, Calls Try.prog 62 #[.agg #[.int .u8 a, .int .u8 b, .int .u8 c, .int .u8 d]] wx fun e w' => e = .returned (.bool R) ∧ Below wx.heap.size wx w') := HIH
  show Calls Try.prog 55 #[.agg #[.int .u8 a, .int .u8 b, .int .u8 c, .int .u8 d], v] w _
  obtain ⟨w1, hw1⟩ : ∃ w1, w.alloc (.cells #[.int .u8 a, .int .u8 b, .int .u8 c, .int .u8 d] 39) = w1 := ⟨_, rfl⟩
  have HB1 : Hid (Below w.heap.size w w1) := Lib.hid (by rw [← hw1]; exact below_alloc _ (Below.refl _ w))
  obtain ⟨c0, c1, c2, c3⟩ : w1.cell? ⟨w.heap.size, 0, none⟩ = some (.int .u8 a) ∧ w1.cell? ⟨w.heap.size, 1, none⟩ = some (.int .u8 b) ∧ w1.cell? ⟨w.heap.size, 2, none⟩ = some (.int .u8 c) ∧ w1.cell? ⟨w.heap.size, 3, none⟩ = some (.int .u8 d) := by
    refine ⟨?_, ?_, ?_, ?_⟩ <;> (rw [← hw1, cell_of_row _ w.heap.size _ _ _ _ (heap_alloc_new w _)]; rfl)
  obtain ⟨A, cc, rfl, hc1, hc2, _⟩ := hv
  obtain ⟨N, hN⟩ : ∃ N, N = l.length := ⟨_, rfl⟩
  have HN := Lib.hid hN
  rw [← hN] at HV hc1 hl HZ ⊢
  obtain ⟨m8, hm8⟩ : ∃ m8, m8 = min 8 N := ⟨_, rfl⟩
  obtain ⟨m12, hm12⟩ : ∃ m12, m12 = min 12 N := ⟨_, rfl⟩
  rw [← hm8, ← hm12] at HZ
  have i8 : (if (N : Int) < 8 then (N : Int) else 8) = (m8 : Int) := by split <;> omega
  have i12 : (if (N : Int) < 12 then (N : Int) else 12) = (m12 : Int) := by split <;> omega
  have hs8 : ∀ W, (Instr.slice 22 (.slice A N cc) none (some (.int .i64 (m8 : Int))) none).run Try.prog W = .ok (cutV A 0 m8 cc) W := fun W => run_cut_h W A N cc m8 (by omega)
  have hs12 : ∀ W, (Instr.slice 22 (.slice A N cc) (some (.int .i64 (m12 : Int))) none none).run Try.prog W = .ok (cutV A m12 N cc) W := fun W => run_cut_l W A N cc m12 (by omega)
  obtain ⟨V8, hV8⟩ : ∃ V8, V8 = cutV A 0 m8 cc := ⟨_, rfl⟩
  obtain ⟨V12, hV12⟩ : ∃ V12, V12 = cutV A m12 N cc := ⟨_, rfl⟩
  have e8 : (l.drop 0).take (m8 - 0) = l.take m8 := by simp
  have e12 : (l.drop m12).take (N - m12) = l.drop m12 := by rw [List.take_of_length_le]; simp; omega
  have HSA : Hid (∀ wx, Below w.heap.size w wx → Calls Try.prog 21 #[V8] wx fun e w' => e = .returned (.int .u32 (sumS (l.take m8))) ∧ Below wx.heap.size wx w') := Lib.hid (fun wx hx => by
    have h := HS.out wx V8 _ (by rw [hV8]; exact cut_num (HV.out.below hx) 0 m8 (Nat.zero_le _) (by omega)) (piece_b HA.out _ _) (by simp; omega)
    rw [e8] at h; exact h)
  have HSB : Hid (∀ wx, Below w.heap.size w wx → Calls Try.prog 21 #[V12] wx fun e w' => e = .returned (.int .u32 (sumS (l.drop m12))) ∧ Below wx.heap.size wx w') := Lib.hid (fun wx hx => by
    have h := HS.out wx V12 _ (by rw [hV12]; exact cut_num (HV.out.below hx) m12 N (by omega) (by omega)) (piece_b HA.out _ _) (by simp; omega)
    rw [e12] at h; exact h)
  have HSW : Hid (∀ wx, Below w.heap.size w wx → Calls Try.prog 21 #[.slice A N cc] wx fun e w' => e = .returned (.int .u32 (sumS l)) ∧ Below wx.heap.size wx w') := Lib.hid (fun wx hx => HS.out wx _ _ (HV.out.below hx) HA.out (by omega))
  rw [← hV8] at hs8
  rw [← hV12] at hs12
  generalize sumS (l.take m8) = x8 at HZ HSA
  generalize sumS (l.drop m12) = x12 at HZ HSB
  generalize sumS l = xw at HZ HSW
  have HSAB : Hid (∀ wx, Below w.heap.size w wx → ∀ V x, ((V = V8 ∧ x = x8) ∨ (V = V12 ∧ x = x12)) → Calls Try.prog 21 #[V] wx fun e w' => e = .returned (.int .u32 x) ∧ Below w.heap.size w w') := Lib.hid (fun wx hx V x h => by
    rcases h with ⟨rfl, rfl⟩ | ⟨rfl, rfl⟩
    · exact (HSA.out wx hx).mono fun e w' h => ⟨h.1, hx.trans (h.2.mono hx.size)⟩
    · exact (HSB.out wx hx).mono fun e w' h => ⟨h.1, hx.trans (h.2.mono hx.size)⟩)
  clear HSA HSB
  have hwr : IntKind.u32.wrap (x8 + x12) = (x8 + x12) % 4294967296 := by rw [wrap_u32]
  clear hR hZ lt ht hA hl hN hc1 hc2 hV8 hV12 hm8 hm12 e8 e12
  go_enter Try.func55, Try.ntmps55
  go_wp2_with fail
  refine (HIH2.out _).mono ?_
  rintro e w4 ⟨rfl, hb4⟩
  have HB4 := Lib.hid (HB1.out.trans (hb4.mono HB1.out.size))
  clear hb4 c0 c1 c2 c3 hw1
  cases R with
  | false =>
    have HZV : Hid (Z = xw) := Lib.hid (HZ.out.2 rfl)
    go_wp2_with fail
    refine (HSW.out _ HB4.out).mono ?_
    rintro e w5 ⟨rfl, hb5⟩
    rw [← HZV.out]
    have HB5 := Lib.hid (HB4.out.trans (hb5.mono HB4.out.size))
    clear hb5
    go_wp2_with fail
    go_ret
    exact ⟨rfl, HB5.out⟩
  | true =>
    have HZV : Hid (Z = (x8 + x12) % 4294967296) := Lib.hid (HZ.out.1 rfl)
    go_upto_region 4 with fail
    go_region_held3 (fun w' => Below w.heap.size w w')
      (first | assumption | exact HB4.out | exact HB4.out.drew)
      (first
        | (go_at_call 21; go_split_ands; refine (HSAB.out _ (by assumption) _ _ (by first | exact .inl ⟨rfl, rfl⟩ | exact .inr ⟨rfl, rfl⟩)).mono ?_; rintro e wx ⟨rfl, hbx⟩))
    all_goals (go_wp2_with fail; go_ret; exact ⟨by rw [HZV.out]; rfl, by assumption⟩)
end Go.Proofs.Ytlpnikolnohcaaa
