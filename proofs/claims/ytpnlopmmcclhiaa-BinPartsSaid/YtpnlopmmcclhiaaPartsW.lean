/-
  BinParts.
-/
import Derived.Test.YtpnlopmmcclhiaaWorks4
import Derived.Test.YtpnlopmmcclhiaaAll
import Derived.BigQuiet
namespace Go.Proofs.Ytpnlopmmcclhiaa
open Go Go.RowKit

def BPRel (w1 : World) (m k : Nat) (vi : Value) (wr : World) : Prop := ∃ i : Nat, i + k = m ∧ vi = .int .i64 (i : Int) ∧ Below w1.heap.size w1 wr

theorem sizeB (w : World) : (Go.sizeOf 5).run Try.prog w = .ok 1 w := by kernel_rfl

theorem run_slice_b (W : World) (A : Option Addr) (N c s t : Nat) (hst : s ≤ t) (htc : t ≤ c) :
    (Instr.slice 35 (.slice A N c) (some (.int .i64 (s : Int))) (some (.int .i64 (t : Int))) none).run Try.prog W = .ok (.slice (if c = s then A else A.map (·.add (s * 1))) (t - s) (c - s)) W := by
  have ht' : Try.prog.underlying 35 = some (.slice (Try.prog.elem 35)) := by simp [Program.elem, Try.underlying35]
  have he : Try.prog.elem 35 = 5 := by simp [Program.elem, Try.underlying35]
  rw [run_slice_lh W _ _ _ _ ht' .i64 .i64 _ _ (by omega) (by omega) (by omega), he, sizeB]
  simp [sliced]

theorem getD_piece (l : List Int) (s m k : Nat) (hk : k < m) : ((l.drop s).take m).getD k 0 = l.getD (s + k) 0 := by
  rw [List.getD_eq_getElem?_getD, List.getD_eq_getElem?_getD, List.getElem?_take_of_lt hk, List.getElem?_drop]

theorem getD_at (l : List Int) (j : Nat) (h : j < l.length) : l.getD j 0 = l[j] := by simp [h]

set_option maxHeartbeats 20000000 in
set_option maxRecDepth 20000 in
theorem binParts_some (hP : PutC 19) (w : World) (A : Option Addr) (N c : Nat) (l : List Int) (hN : N = l.length) (hA : AllB l) (hv : NumZ .u8 w (.slice A N c) l) (hnn : ∀ n' c', Value.slice A N c = .slice none n' c' → n' = 0 ∧ c' = 0) (h2000 : N ≤ 2000) (i n j m : Nat) (hin : i + n ≤ N) (hjm : j + m ≤ n) :
    Calls Try.prog 7 #[.slice A N c, .int .i64 (i : Int), .int .i64 (n : Int), .int .i64 (j : Int), .int .i64 (m : Int)] w fun e w' => e = .returned (.bool true) ∧ Below w.heap.size w w' := by
  have HW := Lib.hid (fun w => works4_any hP w)
  have HAL := Lib.hid (all_any w A N c (by omega) i n)
  have e1 : allB N i n = true := by unfold allB; simp; omega
  rw [e1] at HAL
  have HO := Lib.hid (open_any w _ l hv hnn (by omega))
  obtain ⟨s, hs⟩ : ∃ s, s = i + j := ⟨_, rfl⟩
  obtain ⟨t, ht⟩ : ∃ t, t = s + m := ⟨_, rfl⟩
  obtain ⟨L, hL⟩ : ∃ L, L = (l.drop s).take m := ⟨_, rfl⟩
  have hLl : L.length = m := by rw [hL]; simp; omega
  have hLA : AllB L := fun x hx => hA x (List.mem_of_mem_drop (List.mem_of_mem_take (by rw [hL] at hx; exact hx)))
  have hLj : (((l.drop i).take n).drop j).take m = L := by
    rw [hL, hs, List.drop_take, List.drop_drop, List.take_take, Nat.min_eq_left (by omega)]
  have HP1 : Hid (∀ wx r, RdZ wx r l → Calls Try.prog 15 #[r, .int .i64 (i : Int), .int .i64 (n : Int)] wx fun e w' => Below wx.heap.size wx w' ∧ ∃ r', e = .returned r' ∧ RdZ w' r' ((l.drop i).take n)) := Lib.hid (fun wx r hr => rd_part wx r l hr (by omega) i n (by omega))
  have HP2 : Hid (∀ wx r, RdZ wx r ((l.drop i).take n) → Calls Try.prog 15 #[r, .int .i64 (j : Int), .int .i64 (m : Int)] wx fun e w' => Below wx.heap.size wx w' ∧ ∃ r', e = .returned r' ∧ RdZ w' r' L) := Lib.hid (fun wx r hr => by
    have h := rd_part wx r _ hr (by simp; omega) j m (by simp; omega)
    rw [hLj] at h
    exact h)
  have HP3 : Hid (∀ wx r, RdZ wx r l → Calls Try.prog 15 #[r, .int .i64 (s : Int), .int .i64 (m : Int)] wx fun e w' => Below wx.heap.size wx w' ∧ ∃ r', e = .returned r' ∧ RdZ w' r' L) := Lib.hid (fun wx r hr => by
    have h := rd_part wx r l hr (by omega) s m (by omega)
    rw [← hL] at h
    exact h)
  have HBD : Hid (∀ wx r, RdZ wx r l → Calls Try.prog 9 #[r] wx fun e w' => e = .returned (.bool false) ∧ wx = w') := Lib.hid (fun wx r hr => rd_bad wx r l hr)
  have HLN : Hid (∀ wx r, RdZ wx r L → Calls Try.prog 10 #[r] wx fun e w' => e = .returned (.int .i64 (m : Int)) ∧ wx = w') := Lib.hid (fun wx r hr => by
    have h := rd_len wx r L hr
    rw [hLl] at h
    exact h)
  have HBS : Hid (∀ wx r, RdZ wx r L → Calls Try.prog 17 #[r] wx fun e w' => Below wx.heap.size wx w' ∧ ∃ v, e = .returned v ∧ OwnB wx.heap.size w' v L) := Lib.hid (fun wx r hr => rd_bytes wx r L hr (by omega))
  have HSB : Hid (∀ wx a b, NumZ .u8 wx a L → NumZ .u8 wx b L → Calls Try.prog 21 #[a, b] wx fun e w' => e = .returned (.bool true) ∧ wx = w') := Lib.hid (fun wx a b ha hb => sameB_any L a b wx ha hb)
  have HB1 : Hid (∀ wx r, RdZ wx r L → ∀ k (h : k < m), Calls Try.prog 11 #[r, .int .i64 (k : Int)] wx fun e w' => e = .returned (.int .u8 (L.getD k 0)) ∧ wx = w') := Lib.hid (fun wx r hr k hk => by
    have h := rd_byte wx r L hr (by omega) k (by omega)
    have e : L.getD k 0 = L[k]'(by omega) := by simp [hLl, hk]
    rw [e]; exact h)
  have HB2 : Hid (∀ wx r, RdZ wx r l → ∀ k (h : k < m), Calls Try.prog 11 #[r, .int .i64 ((s + k : Nat) : Int)] wx fun e w' => e = .returned (.int .u8 (L.getD k 0)) ∧ wx = w') := Lib.hid (fun wx r hr k hk => by
    have h := rd_byte wx r l hr (by omega) (s + k) (by omega)
    have e : L.getD k 0 = l[s + k]'(by omega) := by
      have e1 : L.getD k 0 = l.getD (s + k) 0 := by rw [hL]; exact getD_piece l s m k hk
      rw [e1]; exact getD_at l _ (by omega)
    rw [e]; exact h)
  have HCL : Hid (∀ wx, Below w.heap.size w wx → ∀ k, k < m → ∃ g off, A = some ⟨g, off, none⟩ ∧ wx.cell? ⟨g, off + (s + k), none⟩ = some (.int .u8 (L.getD k 0))) := Lib.hid (fun wx hb k hk => by
    obtain ⟨g, off, hA', hg, hc⟩ := hv.cells (by rintro rfl; simp at hN; omega)
    refine ⟨g, off, hA', ?_⟩
    rw [hb.cell (by exact hg), hc (s + k) (by omega)]
    have e1 : L.getD k 0 = l.getD (s + k) 0 := by rw [hL]; exact getD_piece l s m k hk
    rw [e1, getD_at l _ (by omega)])
  have HSV0 : Hid (∀ SV, SV = Value.slice (if c = s then A else A.map (·.add (s * 1))) (t - s) (c - s) → ∀ wx, Below w.heap.size w wx → NumZ .u8 wx SV L) := Lib.hid (fun SV hSV wx hb => by
    subst hSV
    obtain ⟨A', c', e, hc1, hc2, hx⟩ := hv
    injection e with e1 e2 e3
    subst e1; subst e3
    by_cases hne : L = []
    · have h0 : t - s = 0 := by
        have h : L.length = 0 := by rw [hne]; rfl
        omega
      rw [h0, hne]
      exact ⟨_, _, rfl, Nat.zero_le _, by omega, fun h => absurd rfl h⟩
    · have hm1 : 1 ≤ m := by
        have h : L.length ≠ 0 := fun h => hne (List.length_eq_zero_iff.1 h)
        omega
      obtain ⟨g, off, rfl, hg, hcell⟩ := hx (by rintro rfl; simp at hN; omega)
      rw [if_neg (by omega), Option.map_some, Nat.mul_one, add_flat]
      have h := NumZ.piece (k := .u8) (w := w) (g := g) (off := off) (c := c) hc1 hc2 hg hcell s t (by omega) (by omega)
      rw [show t - s = m by omega, ← hL] at h
      rw [show t - s = m by omega]
      exact h.below hb)
  have b1 : (2000 < (N : Int)) = False := eq_false (by omega)
  have b2 : ((j : Int) < 0) = False := eq_false (by omega)
  have b3 : ((m : Int) < 0) = False := eq_false (by omega)
  have b4 : ((n : Int) < (j : Int)) = False := eq_false (by omega)
  obtain ⟨d, hd⟩ : ∃ d, d = n - j := ⟨_, rfl⟩
  have q1 : IntKind.i64.wrap ((n : Int) - (j : Int)) = (d : Int) := by rw [IntKind.wrap_i64]; omega
  have b5 : ((d : Int) < (m : Int)) = False := eq_false (by omega)
  have q2 : IntKind.i64.wrap ((i : Int) + (j : Int)) = (s : Int) := by rw [IntKind.wrap_i64]; omega
  have q3 : IntKind.i64.wrap ((s : Int) + (m : Int)) = (t : Int) := by rw [IntKind.wrap_i64]; omega
  have HN2 : Hid (s ≤ 2000 ∧ m ≤ 2000 ∧ t ≤ N ∧ N ≤ c ∧ s ≤ t ∧ t = s + m) := Lib.hid (by
    obtain ⟨A', c', e, hc1, hc2, hx⟩ := hv
    injection e with e1 e2 e3
    subst e3
    omega)
  have HVB := Lib.hid hv
  have HNN := Lib.hid hnn
  have HNL := Lib.hid hN
  clear e1 hN hA hv hnn h2000 hin hjm hs ht hL hLl hLA hLj hd
  go_enter Try.func7, Try.ntmps7
  go_wp2_with fail
  refine (HAL.out).mono ?_
  rintro e w0 ⟨rfl, rfl⟩
  go_wp2_with fail
  refine (HO.out).mono ?_
  rintro e w1 ⟨hb1, r, rfl, hr⟩
  have HBW1 := Lib.hid hb1
  have HR1 := Lib.hid hr
  clear hb1 hr
  go_wp2_with fail
  refine (HP1.out _ _ HR1.out).mono ?_
  rintro e w2 ⟨hb2, r0, rfl, hr0⟩
  have HBW2 := Lib.hid (HBW1.out.trans (hb2.mono HBW1.out.size))
  have HR2 := Lib.hid (HR1.out.below hb2)
  have HR0 := Lib.hid hr0
  clear hb2 hr0
  go_wp2_with fail
  refine (HP2.out _ _ HR0.out).mono ?_
  rintro e w3 ⟨hb3, rp, rfl, hrp⟩
  have HBW3 := Lib.hid (HBW2.out.trans (hb3.mono HBW2.out.size))
  have HR3 := Lib.hid (HR2.out.below hb3)
  have HRP3 := Lib.hid hrp
  clear hb3 hrp
  go_wp2_with fail
  refine (HP3.out _ _ HR3.out).mono ?_
  rintro e w4 ⟨hb4, rq, rfl, hrq⟩
  have HBW4 := Lib.hid (HBW3.out.trans (hb4.mono HBW3.out.size))
  have HR4 := Lib.hid (HR3.out.below hb4)
  have HRP4 := Lib.hid (HRP3.out.below hb4)
  have HRQ4 := Lib.hid hrq
  clear hb4 hrq
  have HCLN : Hid (∀ wx, Below w4.heap.size w4 wx → ∀ r', (r' = rp ∨ r' = rq) → Calls Try.prog 10 #[r'] wx fun e w' => e = .returned (.int .i64 (m : Int)) ∧ wx = w') := Lib.hid (fun wx hb r' hr' => HLN.out wx r' (by rcases hr' with rfl | rfl; exact HRP4.out.below hb; exact HRQ4.out.below hb))
  have HCBS : Hid (∀ wx, Below w4.heap.size w4 wx → ∀ r', (r' = rp ∨ r' = rq) → Calls Try.prog 17 #[r'] wx fun e w' => Below wx.heap.size wx w' ∧ ∃ v, e = .returned v ∧ OwnB wx.heap.size w' v L) := Lib.hid (fun wx hb r' hr' => HBS.out wx r' (by rcases hr' with rfl | rfl; exact HRP4.out.below hb; exact HRQ4.out.below hb))
  have HCBD : Hid (∀ wx, Below w4.heap.size w4 wx → Calls Try.prog 9 #[r] wx fun e w' => e = .returned (.bool false) ∧ wx = w') := Lib.hid (fun wx hb => HBD.out wx r (HR4.out.below hb))
  have bmm : ((m : Int) != (m : Int)) = false := by simp
  have HVW4 : Hid (∀ wx, Below w4.heap.size w4 wx → Below w.heap.size w wx) := Lib.hid (fun wx hb => HBW4.out.trans (hb.mono HBW4.out.size))
  have s0 : (0 : Int) ≤ (s : Int) := Int.natCast_nonneg _
  have hst : (s : Int) ≤ (t : Int) := by have := HN2.out; omega
  have htc : (t : Int) ≤ (c : Int) := by have := HN2.out; omega
  obtain ⟨R, hR⟩ : ∃ R : Act → World → Prop, R = fun _ _ => True := ⟨_, rfl⟩
  clear hR R
  go_upto_region 5 with fail
  go_cut [98] from 61 to 98 (fun sr wx => sr = .bool false ∧ Below w4.heap.size w4 wx)
  case first =>
    have h3 : ∃ gr gs, w4.cell? ⟨gr, 0, none⟩ = some (.pointer (some ⟨gs, 0, none⟩)) := by
      obtain ⟨gr, gs, _, _, _, _, _, h, _⟩ := HR4.out
      exact ⟨gr, gs, h⟩
    obtain ⟨gr, gs, h3⟩ := h3
    obtain ⟨SV, hSVe⟩ : ∃ SV, SV = Value.slice (if c = s then A else A.map (·.add (s * 1))) (t - s) (c - s) := ⟨_, rfl⟩
    have hsl : ∀ W, (Instr.slice 35 (.slice A N c) (some (.int .i64 (s : Int))) (some (.int .i64 (t : Int))) none).run Try.prog W = .ok SV W := fun W => by
      rw [hSVe]; exact run_slice_b W A N c s t (by omega) (by omega)
    have HSV := Lib.hid (fun wx hb => (HSV0.out SV hSVe) wx hb)
    clear hSVe
    go_region_held3 (fun w' => w'.cell? ⟨gr, 0, none⟩ = some (.pointer (some ⟨gs, 0, none⟩)) ∧ Below w4.heap.size w4 w')
      (first | assumption | (go_split_ands; exact ⟨h3, (Below.refl _ w4).drew⟩) | (go_split_ands; exact ⟨by assumption, by assumption⟩) | (go_split_ands; exact ⟨cellsAt_below (by assumption) hbx, Below.trans (by assumption) (hbx.mono (Below.size (by assumption)))⟩))
      (first
        | (go_at_call 9; go_split_ands; refine (HCBD.out _ (by assumption)).mono ?_; rintro e wx ⟨rfl, rfl⟩)
        | (go_at_call 10; go_split_ands; refine (HCLN.out _ (by assumption) _ (by first | exact .inl rfl | exact .inr rfl)).mono ?_; rintro e wx ⟨rfl, rfl⟩)
        | (go_at_call 17; go_split_ands; refine (HCBS.out _ (by assumption) _ (by first | exact .inl rfl | exact .inr rfl)).mono ?_; rintro e wx ⟨hbx, vx, rfl, howx⟩)
        | (go_at_call 21; go_split_ands; refine (HSB.out _ _ _ (by first | exact OwnB.read (by assumption) | exact (OwnB.read (by assumption)).below (by assumption)) (by first | exact OwnB.read (by assumption) | exact (OwnB.read (by assumption)).below (by assumption) | exact HSV.out _ (HVW4.out _ (by assumption)))).mono ?_; rintro e wx ⟨rfl, rfl⟩))
    all_goals (go_wp2_with fail; go_meet; go_split_ands; exact ⟨rfl, by assumption⟩)
  case rest =>
    obtain ⟨rfl, hb5⟩ := hcut
    have HB5 := Lib.hid hb5
    clear hb5
    go_wp2_with fail
    go_loopg [14] m (fun k vi wr => BPRel w4 m k vi wr)
    case atStart => exact ⟨0, by omega, rfl, HB5.out⟩
    case round =>
      obtain ⟨k, hkk, rfl, hb⟩ := hrel
      have HBW := Lib.hid hb
      have HKK := Lib.hid hkk
      clear hb
      by_cases hk : k = m
      · have bi : ((k : Int) < (m : Int)) = False := eq_false (by omega)
        clear hk hkk
        go_wp2_with fail
        refine (HCBD.out _ HBW.out).mono ?_
        rintro e w5 ⟨rfl, rfl⟩
        go_wp2_with fail
        refine (HW.out _).mono ?_
        rintro e w6 ⟨rfl, hb6⟩
        have HB6 := Lib.hid (HVW4.out _ (HBW.out.trans (hb6.mono HBW.out.size)))
        clear hb6
        go_wp2_with fail
        go_ret
        exact ⟨rfl, HB6.out⟩
      · have hkm : k < m := by omega
        obtain ⟨g, off, rfl, cb⟩ := HCL.out _ (HVW4.out _ HBW.out) k hkm
        obtain ⟨x, hx⟩ : ∃ x, x = L.getD k 0 := ⟨_, rfl⟩
        rw [← hx] at cb
        obtain ⟨sk, hsk⟩ : ∃ sk, sk = s + k := ⟨_, rfl⟩
        rw [← hsk] at cb
        have h2 := HN2.out
        have q4 : IntKind.i64.wrap ((s : Int) + (k : Int)) = (sk : Int) := by rw [IntKind.wrap_i64]; omega
        obtain ⟨k1, hk1⟩ : ∃ k1, k1 = k + 1 := ⟨_, rfl⟩
        have q5 : IntKind.i64.wrap ((k : Int) + 1) = (k1 : Int) := by rw [IntKind.wrap_i64]; omega
        have bi : ((k : Int) < (m : Int)) = True := eq_true (by omega)
        have k0 : (0 : Int) ≤ (k : Int) := Int.natCast_nonneg _
        have km : (k : Int) < (m : Int) := by omega
        have sk0 : (0 : Int) ≤ (sk : Int) := Int.natCast_nonneg _
        have skN : (sk : Int) < (N : Int) := by omega
        have bx : (x != x) = false := by simp
        have HCB : Hid (∀ wx, Below wr.heap.size wr wx → ∀ (r' : Value) (t' : Int), (r' = rp ∧ t' = (k : Int)) ∨ (r' = r ∧ t' = (sk : Int)) → Calls Try.prog 11 #[r', .int .i64 t'] wx fun e w' => e = .returned (.int .u8 x) ∧ wx = w') := Lib.hid (fun wx hb r' t' h => by
          have hb4 := HBW.out.trans (hb.mono HBW.out.size)
          rcases h with ⟨rfl, rfl⟩ | ⟨rfl, rfl⟩
          · rw [hx]; exact HB1.out wx _ (HRP4.out.below hb4) k hkm
          · rw [hx, hsk]; exact HB2.out wx _ (HR4.out.below hb4) k hkm)
        have HK1 := Lib.hid hk1
        have HKM := Lib.hid hkm
        clear hk hkk hkm hx hsk h2 hk1
        go_upto_region 10 with fail
        go_cut [128] from 99 to 128 (fun sr wx => sr = .bool false ∧ Below wr.heap.size wr wx)
        case first =>
          go_region_held3 (fun w' => w'.cell? ⟨g, off + sk, none⟩ = some (.int .u8 x) ∧ Below wr.heap.size wr w')
            (first | assumption | (go_split_ands; exact ⟨cb, (Below.refl _ wr).drew⟩) | (go_split_ands; exact ⟨by assumption, by assumption⟩))
            (first
              | (go_at_call 11; go_split_ands; refine (HCB.out _ (by assumption) _ _ (by first | exact .inl ⟨rfl, rfl⟩ | exact .inr ⟨rfl, rfl⟩)).mono ?_; rintro e wx ⟨rfl, rfl⟩))
          all_goals (go_wp2_with fail; go_meet; go_split_ands; exact ⟨rfl, by assumption⟩)
        case rest =>
          obtain ⟨rfl, hb6⟩ := hcut
          have HB6 := Lib.hid (HBW.out.trans (hb6.mono HBW.out.size))
          clear hb6 cb
          go_wp2_with fail
          go_roundg (gk - 1)
          case measure => have := HKK.out; have := HKM.out; omega
          case rel => exact ⟨k1, by have := HKK.out; have := HKM.out; have := HK1.out; omega, by first | rfl | exact congrArg _ (by omega), HB6.out⟩

set_option maxRecDepth 20000 in
theorem binParts_any (hP : PutC 19) (w : World) (v : Value) (l : List Int) (hA : AllB l) (hv : NumZ .u8 w v l) (hnn : ∀ n' c', v = .slice none n' c' → n' = 0 ∧ c' = 0) (i n j m : Int) :
    Calls Try.prog 7 #[v, .int .i64 i, .int .i64 n, .int .i64 j, .int .i64 m] w fun e w' => e = .returned (.bool true) ∧ Below w.heap.size w w' := by
  have hv' := hv
  obtain ⟨A, c, rfl, _, _, _⟩ := hv'
  rename_i g1 g2 g3
  have HW := Lib.hid (fun w => works4_any hP w)
  by_cases h1 : l.length ≤ 2000
  · have b1 : (2000 < (l.length : Int)) = False := eq_false (by omega)
    have HAL := Lib.hid (all_any w A l.length c (by omega) i n)
    by_cases h2 : allB l.length i n = true
    · have h2' := h2
      unfold allB at h2'
      rw [decide_eq_true_eq] at h2'
      rw [h2] at HAL
      by_cases h3 : j < 0
      · have b3 : (j < 0) = True := eq_true h3
        clear g1 g2 g3 hv hnn hA h2 h2' h3
        generalize l.length = N at b1 HAL ⊢
        go_enter Try.func7, Try.ntmps7
        go_wp2_with fail
        refine (HAL.out).mono ?_
        rintro e w0 ⟨rfl, rfl⟩
        go_wp2_with fail
        refine (HW.out _).mono ?_
        rintro e w1 ⟨rfl, hb1⟩
        go_wp2_with fail
        go_ret
        exact ⟨rfl, hb1⟩
      · have b3 : (j < 0) = False := eq_false h3
        by_cases h4 : m < 0
        · have b4 : (m < 0) = True := eq_true h4
          clear g1 g2 g3 hv hnn hA h2 h2' h3 h4
          generalize l.length = N at b1 HAL ⊢
          go_enter Try.func7, Try.ntmps7
          go_wp2_with fail
          refine (HAL.out).mono ?_
          rintro e w0 ⟨rfl, rfl⟩
          go_wp2_with fail
          refine (HW.out _).mono ?_
          rintro e w1 ⟨rfl, hb1⟩
          go_wp2_with fail
          go_ret
          exact ⟨rfl, hb1⟩
        · have b4 : (m < 0) = False := eq_false h4
          by_cases h5 : n < j
          · have b5 : (n < j) = True := eq_true h5
            clear g1 g2 g3 hv hnn hA h2 h2' h3 h4 h5
            generalize l.length = N at b1 HAL ⊢
            go_enter Try.func7, Try.ntmps7
            go_wp2_with fail
            refine (HAL.out).mono ?_
            rintro e w0 ⟨rfl, rfl⟩
            go_wp2_with fail
            refine (HW.out _).mono ?_
            rintro e w1 ⟨rfl, hb1⟩
            go_wp2_with fail
            go_ret
            exact ⟨rfl, hb1⟩
          · have b5 : (n < j) = False := eq_false h5
            by_cases h6 : n - j < m
            · obtain ⟨d, hd⟩ : ∃ d, d = n - j := ⟨_, rfl⟩
              have q1 : wrap64 (n - j) = d := by rw [hd]; unfold wrap64; omega
              have b6 : (d < m) = True := eq_true (by omega)
              clear g1 g2 g3 hv hnn hA h2 h2' h3 h4 h5 h6 hd
              generalize l.length = N at b1 HAL ⊢
              go_enter Try.func7, Try.ntmps7
              go_wp2_with fail
              refine (HAL.out).mono ?_
              rintro e w0 ⟨rfl, rfl⟩
              go_wp2_with fail
              refine (HW.out _).mono ?_
              rintro e w1 ⟨rfl, hb1⟩
              go_wp2_with fail
              go_ret
              exact ⟨rfl, hb1⟩
            · obtain ⟨i', rfl⟩ := Int.eq_ofNat_of_zero_le h2'.1
              obtain ⟨n', rfl⟩ := Int.eq_ofNat_of_zero_le h2'.2.1
              obtain ⟨j', rfl⟩ := Int.eq_ofNat_of_zero_le (show 0 ≤ j by omega)
              obtain ⟨m', rfl⟩ := Int.eq_ofNat_of_zero_le (show 0 ≤ m by omega)
              exact binParts_some hP w A _ c l rfl hA hv hnn h1 i' n' j' m' (by omega) (by omega)
    · have hR : allB l.length i n = false := by simpa using h2
      rw [hR] at HAL
      clear g1 g2 g3 hv hnn hA h2 hR
      generalize l.length = N at b1 HAL ⊢
      go_enter Try.func7, Try.ntmps7
      go_wp2_with fail
      refine (HAL.out).mono ?_
      rintro e w0 ⟨rfl, rfl⟩
      go_wp2_with fail
      refine (HW.out _).mono ?_
      rintro e w1 ⟨rfl, hb1⟩
      go_wp2_with fail
      go_ret
      exact ⟨rfl, hb1⟩
  · have b1 : (2000 < (l.length : Int)) = True := eq_true (by omega)
    clear g1 g2 g3 hv hnn hA h1
    generalize l.length = N at b1 ⊢
    go_enter Try.func7, Try.ntmps7
    go_wp2_with fail
    refine (HW.out _).mono ?_
    rintro e w1 ⟨rfl, hb1⟩
    go_wp2_with fail
    go_ret
    exact ⟨rfl, hb1⟩
end Go.Proofs.Ytpnlopmmcclhiaa
