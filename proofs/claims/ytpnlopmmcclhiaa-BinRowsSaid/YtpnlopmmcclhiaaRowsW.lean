/-
  BinRows.
-/
import Derived.Test.YtpnlopmmcclhiaaWorks4
import Derived.Test.YtpnlopmmcclhiaaAll
import Derived.BigQuiet
namespace Go.Proofs.Ytpnlopmmcclhiaa
open Go Go.RowKit

def BRRel (w1 : World) (n k : Nat) (vi : Value) (wr : World) : Prop := ∃ i : Nat, i + k = n ∧ vi = .int .i64 (i : Int) ∧ Below w1.heap.size w1 wr

theorem i16_u16 (x : Int) (h : 0 ≤ x ∧ x ≤ 65535) : IntKind.u16.wrap (IntKind.i16.wrap x) = x := by
  rw [wrap_u16, wrap_i16]; omega

theorem wordAt_get {l : List Int} (p : Nat) (h : p + 1 < l.length) : wordAt l p = l[p]'(by omega) * 256 + l[p + 1] := by
  unfold wordAt
  rw [List.getD_eq_getElem?_getD, List.getD_eq_getElem?_getD, List.getElem?_eq_getElem h, List.getElem?_eq_getElem (by omega)]; rfl

set_option maxHeartbeats 20000000 in
set_option maxRecDepth 20000 in
theorem binRows_some (hP : PutC 19) (w : World) (A : Option Addr) (N c : Nat) (l : List Int) (hN : N = l.length) (hA : AllB l) (hv : NumZ .u8 w (.slice A N c) l) (hnn : ∀ n' c', Value.slice A N c = .slice none n' c' → n' = 0 ∧ c' = 0) (h2000 : N ≤ 2000) (p n : Nat) (hn : n ≤ 1000) (hp : p + 2 * n ≤ N) :
    Calls Try.prog 8 #[.slice A N c, .int .i64 (p : Int), .int .i64 (n : Int)] w fun e w' => e = .returned (.bool true) ∧ Below w.heap.size w w' := by
  have HW := Lib.hid (fun w => works4_any hP w)
  obtain ⟨n2, hn2⟩ : ∃ n2, n2 = 2 * n := ⟨_, rfl⟩
  have HAL := Lib.hid (all_any w A N c (by omega) p (n2 : Int))
  have e1 : allB N p (n2 : Int) = true := by unfold allB; simp; omega
  rw [e1] at HAL
  have HO := Lib.hid (open_any w _ l hv hnn (by omega))
  have HWS : Hid (∀ wx r, RdZ wx r l → Calls Try.prog 16 #[r, .int .i64 (p : Int), .int .i64 (n : Int)] wx fun e w' => Below wx.heap.size wx w' ∧ ∃ v, e = .returned v ∧ NumZ .u16 w' v (wordsL l p n)) := Lib.hid (fun wx r hr => rd_words wx r l hr hA (by omega) p n (by omega))
  have HWD : Hid (∀ wx r, RdZ wx r l → ∀ i, i + 1 < l.length → Calls Try.prog 12 #[r, .int .i64 (i : Int)] wx fun e w' => e = .returned (.int .u16 (wordAt l i)) ∧ Below wx.heap.size wx w') := Lib.hid (fun wx r hr i hi => rd_word2 wx r l hr hA (by omega) i hi)
  have HID : Hid (∀ wx r, RdZ wx r l → ∀ i, i + 1 < l.length → Calls Try.prog 13 #[r, .int .i64 (i : Int)] wx fun e w' => e = .returned (.int .i16 (IntKind.i16.wrap (wordAt l i))) ∧ Below wx.heap.size wx w') := Lib.hid (fun wx r hr i hi => rd_int wx r l hr hA (by omega) i hi)
  have HBY : Hid (∀ wx r, RdZ wx r l → ∀ i (h : i < l.length), Calls Try.prog 11 #[r, .int .i64 (i : Int)] wx fun e w' => e = .returned (.int .u8 l[i]) ∧ wx = w') := Lib.hid (fun wx r hr i hi => rd_byte wx r l hr (by omega) i hi)
  have HLG : Hid (∀ wx r, RdZ wx r l → ∀ i, i + 3 < l.length → Calls Try.prog 14 #[r, .int .i64 (i : Int)] wx fun e w' => e = .returned (.int .u32 (wordAt l i * 65536 + wordAt l (i + 2))) ∧ Below wx.heap.size wx w') := Lib.hid (fun wx r hr i hi => rd_long wx r l hr hA (by omega) i hi)
  have HBD : Hid (∀ wx r, RdZ wx r l → Calls Try.prog 9 #[r] wx fun e w' => e = .returned (.bool false) ∧ wx = w') := Lib.hid (fun wx r hr => rd_bad wx r l hr)
  have HN := Lib.hid hN
  have HA := Lib.hid hA
  have HPN := Lib.hid hp
  have HNL := Lib.hid hn
  have H2000 := Lib.hid h2000
  have b1 : (2000 < (N : Int)) = False := eq_false (by omega)
  have b2 : ((n : Int) < 0) = False := eq_false (by omega)
  have b3 : (1000 < (n : Int)) = False := eq_false (by omega)
  have q1 : IntKind.i64.wrap (2 * (n : Int)) = (n2 : Int) := by rw [IntKind.wrap_i64]; omega
  have bnn : ((n : Int) != (n : Int)) = false := by simp
  clear e1 hN hA hv hnn h2000 hn hp hn2
  go_enter Try.func8, Try.ntmps8
  go_wp2_with fail
  refine (HAL.out).mono ?_
  rintro e w0 ⟨rfl, rfl⟩
  go_wp2_with fail
  refine (HO.out).mono ?_
  rintro e w1 ⟨hb1, r, rfl, hr⟩
  have HB1 := Lib.hid hb1
  have HR1 := Lib.hid hr
  clear hb1 hr
  go_wp2_with fail
  refine (HWS.out _ _ HR1.out).mono ?_
  rintro e w2 ⟨hb2, vw, rfl, hz⟩
  have HB2 := Lib.hid (HB1.out.trans (hb2.mono HB1.out.size))
  have HR2 := Lib.hid (HR1.out.below hb2)
  have hlen : (wordsL l p n).length = n := by simp [wordsL]
  obtain ⟨Aw, cw, rfl, hw1, hw2, hcw⟩ := hz
  have HCW : Hid (1 ≤ n → ∃ g off, Aw = some ⟨g, off, none⟩ ∧ g < w2.heap.size ∧ ∀ j, j < n → w2.cell? ⟨g, off + j, none⟩ = some (.int .u16 (wordAt l (p + 2 * j)))) := Lib.hid (fun h1 => by
    obtain ⟨g, off, rfl, hg, hc⟩ := hcw (by intro h; rw [h] at hlen; simp at hlen; omega)
    refine ⟨g, off, rfl, hg, fun j hj => ?_⟩
    rw [hc j (by rw [hlen]; exact hj)]
    simp [wordsL])
  rw [hlen]
  clear hb2 hw1 hw2 hcw hlen
  go_wp2_with fail
  go_loopg [9] n (fun k vi wr => BRRel w2 n k vi wr)
  case atStart => exact ⟨0, by omega, rfl, Below.refl _ _⟩
  case round =>
    obtain ⟨i, hik, rfl, hb⟩ := hrel
    have HBW := Lib.hid hb
    have HRW := Lib.hid (HR2.out.below hb)
    have HIK := Lib.hid hik
    clear hb
    by_cases hi : i = n
    · have bi : ((i : Int) < (n : Int)) = False := eq_false (by omega)
      clear hi hik
      go_wp2_with fail
      refine (HBD.out _ _ HRW.out).mono ?_
      rintro e w3 ⟨rfl, rfl⟩
      go_wp2_with fail
      refine (HW.out _).mono ?_
      rintro e w4 ⟨rfl, hb4⟩
      have HB4 := Lib.hid (HB2.out.trans ((HBW.out.trans (hb4.mono HBW.out.size)).mono HB2.out.size))
      clear hb4
      go_wp2_with fail
      go_ret
      exact ⟨rfl, HB4.out⟩
    · have hin : i < n := by omega
      obtain ⟨g, off, rfl, hg, hc⟩ := HCW.out (by omega)
      have hN := HN.out
      have h2000 := H2000.out
      have hPN := HPN.out
      have hNL := HNL.out
      obtain ⟨m, hm⟩ : ∃ m, m = 2 * i := ⟨_, rfl⟩
      obtain ⟨q, hq⟩ : ∃ q, q = p + 2 * i := ⟨_, rfl⟩
      obtain ⟨i1, hi1⟩ : ∃ i1, i1 = i + 1 := ⟨_, rfl⟩
      obtain ⟨qa, hqa⟩ : ∃ qa, qa = q + 1 := ⟨_, rfl⟩
      have hql : q + 1 < l.length := by omega
      obtain ⟨W, hW⟩ : ∃ W, W = wordAt l q := ⟨_, rfl⟩
      have hWb := wordAt_b HA.out q
      rw [← hW] at hWb
      have hWg := wordAt_get q hql
      rw [← hW] at hWg
      obtain ⟨x, hx⟩ : ∃ x, x = l[q]'(by omega) := ⟨_, rfl⟩
      obtain ⟨y, hy⟩ : ∃ y, y = l[q + 1] := ⟨_, rfl⟩
      have hxb := HA.out.get q (by omega)
      have hyb := HA.out.get (q + 1) hql
      rw [← hx] at hxb hWg
      rw [← hy] at hyb hWg
      obtain ⟨V, hV⟩ : ∃ V, V = IntKind.i16.wrap W := ⟨_, rfl⟩
      have HCWD := Lib.hid (fun (wx : World) (hb : Below wr.heap.size wr wx) => HWD.out wx r (HRW.out.below hb) q hql)
      have HCID := Lib.hid (fun (wx : World) (hb : Below wr.heap.size wr wx) => HID.out wx r (HRW.out.below hb) q hql)
      obtain ⟨F, hF⟩ : ∃ F : Nat → Int, F = fun j => l.getD j 0 := ⟨_, rfl⟩
      have HCB : Hid (∀ wx, Below wr.heap.size wr wx → ∀ j : Nat, j < l.length → Calls Try.prog 11 #[r, .int .i64 (j : Int)] wx fun e w' => e = .returned (.int .u8 (F j)) ∧ wx = w') := Lib.hid (fun wx hb j hj => by
        have h := HBY.out wx r (HRW.out.below hb) j hj
        have e : F j = l[j] := by rw [hF]; simp [hj]
        rw [e]; exact h)
      have gx : F q = x := by rw [hF, hx]; simp [show q < l.length by omega]
      have gy : F qa = y := by rw [hF, hy, hqa]; simp [hql]
      have jq : q < l.length := by omega
      have jqa : qa < l.length := by omega
      rw [← hW] at HCWD HCID
      rw [← hV] at HCID
      have cw : wr.cell? ⟨g, off + i, none⟩ = some (.int .u16 W) := by
        rw [hW, hq]; exact cellsAt_below (hc i hin) HBW.out
      have q1 : IntKind.i64.wrap (2 * (i : Int)) = (m : Int) := by rw [IntKind.wrap_i64]; omega
      have q2 : IntKind.i64.wrap ((p : Int) + (m : Int)) = (q : Int) := by rw [IntKind.wrap_i64]; omega
      have q3 : IntKind.i64.wrap ((i : Int) + 1) = (i1 : Int) := by rw [IntKind.wrap_i64]; omega
      have q4 : IntKind.i64.wrap ((q : Int) + 1) = (qa : Int) := by rw [IntKind.wrap_i64]; omega
      have u1 : IntKind.u16.wrap x = x := by rw [wrap_u16]; omega
      have u2 : IntKind.u16.wrap y = y := by rw [wrap_u16]; omega
      have u3 : IntKind.u16.wrap (x * 256) = x * 256 := by rw [wrap_u16]; omega
      have u4 : IntKind.u16.wrap (x * 256 + y) = W := by rw [wrap_u16, hWg]; omega
      have u5 : IntKind.u16.wrap V = W := by rw [hV]; exact i16_u16 W hWb
      have bw : (W != W) = false := by simp
      have bi : ((i : Int) < (n : Int)) = True := eq_true (by omega)
      have i0 : (0 : Int) ≤ (i : Int) := Int.natCast_nonneg _
      have iN : (i : Int) < (n : Int) := by omega
      have HQ := Lib.hid hq
      have HWE := Lib.hid hW
      have HIN := Lib.hid hin
      have HCC := Lib.hid hc
      have HI1 := Lib.hid hi1
      have HQL := Lib.hid hql
      have HWB := Lib.hid hWb
      clear hi hik hin hN h2000 hPN hNL hm hq hi1 hqa hql hW hWb hWg hx hy hxb hyb hV hc hg hF
      go_upto_region 11 with fail
      go_cut [86] from 41 to 108 (fun s wx => s = .bool false ∧ Below wr.heap.size wr wx)
      case first =>
        go_region_held3 (fun w' => w'.cell? ⟨g, off + i, none⟩ = some (.int .u16 W) ∧ Below wr.heap.size wr w')
          (first | assumption | (go_split_ands; exact ⟨cw, (Below.refl _ wr).drew⟩) | (go_split_ands; exact ⟨by assumption, by assumption⟩) | (go_split_ands; exact ⟨cellsAt_below (by assumption) hbx, Below.trans (by assumption) (hbx.mono (Below.size (by assumption)))⟩))
          (first
            | (go_at_call 12; go_split_ands; refine (HCWD.out _ (by assumption)).mono ?_; rintro e wx ⟨rfl, hbx⟩)
            | (go_at_call 13; go_split_ands; refine (HCID.out _ (by assumption)).mono ?_; rintro e wx ⟨rfl, hbx⟩)
            | (go_at_call 11; go_split_ands; refine (HCB.out _ (by assumption) _ (by assumption)).mono ?_; rintro e wx ⟨rfl, rfl⟩))
        all_goals (go_wp2_with fail; go_meet; go_split_ands; exact ⟨rfl, by assumption⟩)
      case rest =>
        obtain ⟨rfl, hb5⟩ := hcut
        have HB5 := Lib.hid (HBW.out.trans (hb5.mono HBW.out.size))
        have HR5 := Lib.hid (HRW.out.below hb5)
        have HCW5 := Lib.hid (cellsAt_below cw hb5)
        clear hb5 cw
        go_upto_region 13 with fail
        go_cut [108] from 41 to 108 (fun s wx => s = .bool false ∧ Below wc.heap.size wc wx)
        case first =>
          by_cases hi0 : i = 0
          · subst hi0
            go_quiet (fail)
            go_wp2_with fail
            go_meet
            exact ⟨rfl, below_drewN (Below.refl _ wc) _⟩
          · have bi0 : (0 < i) = True := eq_true (by omega)
            have bi1 : ((0 : Int) < (i : Int)) = True := eq_true (by omega)
            obtain ⟨j, hj⟩ : ∃ j, j = i - 1 := ⟨_, rfl⟩
            obtain ⟨qb, hqb⟩ : ∃ qb, qb = q - 2 := ⟨_, rfl⟩
            have hQ := HQ.out
            have hQL := HQL.out
            have hin := HIN.out
            have hqj : qb = p + 2 * j := by omega
            have hq2 : qb + 2 = q := by omega
            obtain ⟨U, hU⟩ : ∃ U, U = wordAt l qb := ⟨_, rfl⟩
            have hUb := wordAt_b HA.out qb
            rw [← hU] at hUb
            have hWb := HWB.out
            obtain ⟨Z, hZ⟩ : ∃ Z, Z = U * 65536 + W := ⟨_, rfl⟩
            have HCL : Hid (∀ wx, Below wc.heap.size wc wx → Calls Try.prog 14 #[r, .int .i64 (qb : Int)] wx fun e w' => e = .returned (.int .u32 Z) ∧ Below wx.heap.size wx w') := Lib.hid (fun wx hb => by
              have h := HLG.out wx r (HR5.out.below hb) qb (by omega)
              rw [hq2, ← hU, ← HWE.out, ← hZ] at h
              exact h)
            have cu : wc.cell? ⟨g, off + j, none⟩ = some (.int .u16 U) := by
              rw [hU, hqj]; exact cellsAt_below (HCC.out j (by omega)) HB5.out
            have cw := HCW5.out
            have q5 : IntKind.i64.wrap ((i : Int) - 1) = (j : Int) := by rw [IntKind.wrap_i64]; have := HNL.out; omega
            have q6 : IntKind.i64.wrap ((q : Int) - 2) = (qb : Int) := by rw [IntKind.wrap_i64]; have := H2000.out; have := HN.out; omega
            have j0 : (0 : Int) ≤ (j : Int) := Int.natCast_nonneg _
            have jn : (j : Int) < (n : Int) := by omega
            have v1 : IntKind.u32.wrap U = U := by rw [wrap_u32]; omega
            have v2 : IntKind.u32.wrap W = W := by rw [wrap_u32]; omega
            have v3 : IntKind.u32.wrap (U * 65536) = U * 65536 := by rw [wrap_u32]; omega
            have v4 : IntKind.u32.wrap (U * 65536 + W) = Z := by rw [wrap_u32, hZ]; omega
            have bz : (Z != Z) = false := by simp
            clear hi0 hj hqb hQ hQL hin hqj hq2 hU hUb hWb hZ
            go_region_held3 (fun w' => w'.cell? ⟨g, off + j, none⟩ = some (.int .u16 U) ∧ w'.cell? ⟨g, off + i, none⟩ = some (.int .u16 W) ∧ Below wc.heap.size wc w')
              (first | assumption | (go_split_ands; exact ⟨cu, cw, (Below.refl _ wc).drew⟩) | (go_split_ands; exact ⟨by assumption, by assumption, by assumption⟩) | (go_split_ands; exact ⟨cellsAt_below (by assumption) hbx, cellsAt_below (by assumption) hbx, Below.trans (by assumption) (hbx.mono (Below.size (by assumption)))⟩))
              (first
                | (go_at_call 14; go_split_ands; refine (HCL.out _ (by assumption)).mono ?_; rintro e wx ⟨rfl, hbx⟩))
            all_goals (go_wp2_with fail; go_meet; go_split_ands; exact ⟨rfl, by assumption⟩)
        case rest =>
          obtain ⟨rfl, hb6⟩ := hcut
          have HB6 := Lib.hid (HB5.out.trans (hb6.mono HB5.out.size))
          clear hb6
          go_wp2_with fail
          go_roundg (gk - 1)
          case measure => have := HIK.out; have := HIN.out; omega
          case rel => exact ⟨i1, by have := HIK.out; have := HIN.out; have := HI1.out; omega, by first | rfl | exact congrArg _ (by omega), HB6.out⟩

theorem binRows_any (hP : PutC 19) (w : World) (v : Value) (l : List Int) (hA : AllB l) (hv : NumZ .u8 w v l) (hnn : ∀ n' c', v = .slice none n' c' → n' = 0 ∧ c' = 0) (p n : Int) :
    Calls Try.prog 8 #[v, .int .i64 p, .int .i64 n] w fun e w' => e = .returned (.bool true) ∧ Below w.heap.size w w' := by
  have hv' := hv
  obtain ⟨A, c, rfl, _, _, _⟩ := hv'
  rename_i g1 g2 g3
  have HW := Lib.hid (fun w => works4_any hP w)
  by_cases h1 : l.length ≤ 2000
  · have b1 : (2000 < (l.length : Int)) = False := eq_false (by omega)
    by_cases h2 : n < 0
    · have b2 : (n < 0) = True := eq_true h2
      clear g1 g2 g3 hv hnn hA h2
      generalize l.length = N at b1 ⊢
      go_enter Try.func8, Try.ntmps8
      go_wp2_with fail
      refine (HW.out _).mono ?_
      rintro e w1 ⟨rfl, hb1⟩
      go_wp2_with fail
      go_ret
      exact ⟨rfl, hb1⟩
    · have b2 : (n < 0) = False := eq_false h2
      by_cases h3 : 1000 < n
      · have b3 : (1000 < n) = True := eq_true h3
        clear g1 g2 g3 hv hnn hA h2 h3
        generalize l.length = N at b1 ⊢
        go_enter Try.func8, Try.ntmps8
        go_wp2_with fail
        refine (HW.out _).mono ?_
        rintro e w1 ⟨rfl, hb1⟩
        go_wp2_with fail
        go_ret
        exact ⟨rfl, hb1⟩
      · by_cases h4 : allB l.length p (2 * n) = true
        · have h4' := h4
          unfold allB at h4'
          rw [decide_eq_true_eq] at h4'
          obtain ⟨p', rfl⟩ := Int.eq_ofNat_of_zero_le h4'.1
          obtain ⟨n', rfl⟩ := Int.eq_ofNat_of_zero_le (show 0 ≤ n by omega)
          exact binRows_some hP w A _ c l rfl hA hv hnn h1 p' n' (by omega) (by omega)
        · have hR : allB l.length p (2 * n) = false := by simpa using h4
          have HAL := Lib.hid (all_any w A l.length c (by omega) p (2 * n))
          rw [hR] at HAL
          have b3 : (1000 < n) = False := eq_false h3
          obtain ⟨n2, hn2⟩ : ∃ n2, n2 = 2 * n := ⟨_, rfl⟩
          have q1 : wrap64 (2 * n) = n2 := by rw [hn2]; unfold wrap64; omega
          have q2 : IntKind.i64.wrap (2 * n) = n2 := by rw [hn2, IntKind.wrap_i64]; omega
          rw [← hn2] at HAL
          clear g1 g2 g3 hv hnn hA h2 h3 h4 hR hn2
          generalize l.length = N at b1 HAL ⊢
          go_enter Try.func8, Try.ntmps8
          go_wp2_with fail
          refine (HAL.out).mono ?_
          rintro e w0 ⟨rfl, rfl⟩
          go_wp2_with fail
          refine (HW.out _).mono ?_
          rintro e w1 ⟨rfl, hb1⟩
          go_wp2_with fail
          go_ret
          exact ⟨rfl, hb1⟩
  · have b1 : (2000 < (l.length : Int)) = True := eq_true (by omega)
    clear g1 g2 g3 hv hnn hA h1
    generalize l.length = N at b1 ⊢
    go_enter Try.func8, Try.ntmps8
    go_wp2_with fail
    refine (HW.out _).mono ?_
    rintro e w1 ⟨rfl, hb1⟩
    go_wp2_with fail
    go_ret
    exact ⟨rfl, hb1⟩
end Go.Proofs.Ytpnlopmmcclhiaa
