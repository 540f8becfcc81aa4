/-
  BinBack.
-/
import Derived.Test.YtpnlopmmcclhiaaWorks4
import Derived.Test.YtpnlopmmcclhiaaPutL
namespace Go.Proofs.Ytpnlopmmcclhiaa
open Go Go.RowKit

def BKRel (w1 : World) (l : List Int) (P : List Nat) (b : List Int) (k : Nat) (va vi : Value) (wr : World) : Prop := ∃ i p : Nat, i + k = l.length ∧ va = .int .i64 (p : Int) ∧ vi = .int .i64 (i : Int) ∧ p ≤ b.length ∧ putR (l.drop i) (P.drop i) = some (b.drop p) ∧ Below w1.heap.size w1 wr

theorem fits_c {c : Nat} {n : Int} (h : fitsC c n = true) : (c = 98 ∧ 0 ≤ n ∧ n ≤ 255) ∨ (c = 72 ∧ 0 ≤ n ∧ n ≤ 65535) ∨ (c = 104 ∧ -32768 ≤ n ∧ n ≤ 32767) ∨ (c = 73 ∧ 0 ≤ n ∧ n ≤ 4294967295) := by
  unfold fitsC at h
  split at h
  · simp at h; omega
  · split at h
    · simp at h; omega
    · split at h
      · simp at h; omega
      · split at h
        · simp at h; omega
        · cases h

theorem put_len : ∀ (l : List Int) (P : List Nat) (b : List Int), putR l P = some b → b.length ≤ 4 * l.length := by
  intro l
  induction l with
  | nil => intro P b h; simp only [putR, Option.some.injEq] at h; subst h; simp
  | cons n l ih =>
    intro P b h
    cases P with
    | nil => simp [putR] at h
    | cons c P =>
      obtain ⟨hf, b', rfl, hr⟩ := putR_cons h
      have := ih P b' hr
      have hs : sizeC c ≤ 4 := by unfold sizeC; repeat (first | omega | split)
      simp [lowB_len]; omega

theorem wrap_i64_b {n : Int} (h : -9223372036854775808 ≤ n ∧ n ≤ 9223372036854775807) : IntKind.i64.wrap n = n := by rw [IntKind.wrap_i64]; omega

set_option maxHeartbeats 20000000 in
set_option maxRecDepth 20000 in
theorem binBack_some (hP : PutC 19) (w : World) (A : Option Addr) (N c : Nat) (l : List Int) (hN : N = l.length) (hv : NumZ .i64 w (.slice A N c) l) (s : ByteArray) (h500 : N ≤ 500) (_hs : s.size ≤ 1000) (b : List Int) (hlen : l.length = s.size) (hb : putR l (plan s) = some b) :
    Calls Try.prog 5 #[.slice A N c, .string s] w fun e w' => e = .returned (.bool true) ∧ Below w.heap.size w w' := by
  have HW := Lib.hid (fun w => works4_any hP w)
  have HPT := hP w _ l s hv (by omega) (by omega)
  have e1 : putA l s = (0, b) := by unfold putA; rw [if_pos hlen, hb]
  rw [e1] at HPT
  have HPT := Lib.hid HPT
  have hbl : b.length ≤ 2000 := by have := put_len l _ b hb; omega
  have hbA := putR_b l _ b hb
  have HO : Hid (∀ wx vx, OwnB w.heap.size wx vx b → Calls Try.prog 22 #[vx] wx fun e w' => Below wx.heap.size wx w' ∧ ∃ r, e = .returned r ∧ RdZ w' r b) := Lib.hid (fun wx vx ho => open_any wx vx b ho.read ho.nn (by omega))
  have HBY : Hid (∀ wx r, RdZ wx r b → ∀ p, p < b.length → Calls Try.prog 11 #[r, .int .i64 (p : Int)] wx fun e w' => e = .returned (.int .u8 (b.getD p 0)) ∧ wx = w') := Lib.hid (fun wx r hr p hp => by
    have h := rd_byte wx r b hr (by omega) p hp
    have e : b.getD p 0 = b[p] := by simp [hp]
    rw [e]; exact h)
  have HWD : Hid (∀ wx r, RdZ wx r b → ∀ p, p + 1 < b.length → Calls Try.prog 12 #[r, .int .i64 (p : Int)] wx fun e w' => e = .returned (.int .u16 (wordAt b p)) ∧ Below wx.heap.size wx w') := Lib.hid (fun wx r hr p hp => rd_word2 wx r b hr hbA (by omega) p hp)
  have HIN : Hid (∀ wx r, RdZ wx r b → ∀ p, p + 1 < b.length → Calls Try.prog 13 #[r, .int .i64 (p : Int)] wx fun e w' => e = .returned (.int .i16 (IntKind.i16.wrap (wordAt b p))) ∧ Below wx.heap.size wx w') := Lib.hid (fun wx r hr p hp => rd_int wx r b hr hbA (by omega) p hp)
  have HLG : Hid (∀ wx r, RdZ wx r b → ∀ p, p + 3 < b.length → Calls Try.prog 14 #[r, .int .i64 (p : Int)] wx fun e w' => e = .returned (.int .u32 (wordAt b p * 65536 + wordAt b (p + 2))) ∧ Below wx.heap.size wx w') := Lib.hid (fun wx r hr p hp => rd_long wx r b hr hbA (by omega) p hp)
  have HLN : Hid (∀ wx r, RdZ wx r b → Calls Try.prog 10 #[r] wx fun e w' => e = .returned (.int .i64 (b.length : Int)) ∧ wx = w') := Lib.hid (fun wx r hr => rd_len wx r b hr)
  have HBD : Hid (∀ wx r, RdZ wx r b → Calls Try.prog 9 #[r] wx fun e w' => e = .returned (.bool false) ∧ wx = w') := Lib.hid (fun wx r hr => rd_bad wx r b hr)
  have HVL : Hid (∀ wx, Below w.heap.size w wx → ∀ i (h : i < l.length), ∃ g off, A = some ⟨g, off, none⟩ ∧ wx.cell? ⟨g, off + i, none⟩ = some (.int .i64 l[i])) := Lib.hid (fun wx hx i hi => by
    obtain ⟨g, off, hA, hg, hc⟩ := hv.cells (by rintro rfl; simp at hi)
    exact ⟨g, off, hA, by rw [hx.cell (by exact hg)]; exact hc i hi⟩)
  have HST : Hid (putR (l.drop 0) ((plan s).drop 0) = some (b.drop 0)) := Lib.hid (by simpa using hb)
  have HLP : Hid (l.length = (plan s).length) := Lib.hid (by rw [plan_len]; exact hlen)
  have HSZ := Lib.hid hlen
  have HN := Lib.hid hN
  have HBL := Lib.hid hbl
  have H500 := Lib.hid h500
  have b1 : (500 < (N : Int)) = False := eq_false (by omega)
  have b2 : (1000 < (s.size : Int)) = False := eq_false (by omega)
  clear e1 hbl hbA hv hb hlen hN h500 hP
  go_enter Try.func5, Try.ntmps5
  go_wp2_with fail
  refine (HPT.out).mono ?_
  rintro e w1 ⟨hb1, vb, rfl, hob⟩
  have HB1 := Lib.hid hb1
  have HOB := Lib.hid hob
  clear hb1 hob
  go_wp2_with fail
  refine (HO.out _ _ HOB.out).mono ?_
  rintro e w2 ⟨hb2, r, rfl, hr⟩
  have HB2 := Lib.hid (HB1.out.trans (hb2.mono HB1.out.size))
  have HR2 := Lib.hid hr
  clear hb2 hr
  go_wp2_with fail
  go_loopg [8, 9] N (fun k va vi wr => BKRel w2 l (plan s) b k va vi wr)
  case atStart => exact ⟨0, 0, by have := HN.out; omega, rfl, rfl, Nat.zero_le _, HST.out, Below.refl _ _⟩
  case round =>
    obtain ⟨i, p, hik, rfl, rfl, hpb, hput, hbw⟩ := hrel
    have HBW := Lib.hid hbw
    have HRW := Lib.hid (HR2.out.below hbw)
    have HIK := Lib.hid hik
    clear hbw
    by_cases hi : i = N
    · have bi : ((i : Int) < (N : Int)) = False := eq_false (by omega)
      have hpl : p = b.length := by
        rw [hi, HN.out, List.drop_length] at hput
        simp only [putR, Option.some.injEq] at hput
        have := congrArg List.length hput
        simp at this
        omega
      have HLN2 := HLN.out wr r HRW.out
      rw [← hpl] at HLN2
      have HLN3 := Lib.hid HLN2
      have bp : ((p : Int) == (p : Int)) = true := by simp
      clear hi hik hpb hput HLN2 hpl
      go_wp2_with fail
      refine (HLN3.out).mono ?_
      rintro e w3 ⟨rfl, rfl⟩
      go_wp2_with fail
      refine (HBD.out _ _ HRW.out).mono ?_
      rintro e w3 ⟨rfl, rfl⟩
      go_wp2_with fail
      refine (HW.out _).mono ?_
      rintro e w4 ⟨rfl, hb4⟩
      have HB4 := Lib.hid (HB2.out.trans ((HBW.out.trans (hb4.mono HBW.out.size)).mono HB2.out.size))
      clear hb4
      go_wp2_with fail
      go_ret
      exact ⟨rfl, HB4.out⟩
    · have hN := HN.out
      have hil : i < l.length := by omega
      obtain ⟨hf, hbd, hnx⟩ := putR_step hil HLP.out hput
      have hidx := fun W => idx_s W s i (by have := HSZ.out; omega)
      obtain ⟨g, off, rfl, cn⟩ := HVL.out _ (HB2.out.trans (HBW.out.mono HB2.out.size)) i hil
      obtain ⟨n, hn⟩ : ∃ n, n = l[i] := ⟨_, rfl⟩
      rw [← hn] at cn hf hbd
      obtain ⟨ch, hch⟩ : ∃ ch, ch = (plan s).getD i 0 := ⟨_, rfl⟩
      rw [← hch] at hf hbd hnx
      simp only [← hch] at hidx
      obtain ⟨i1, hi1⟩ : ∃ i1, i1 = i + 1 := ⟨_, rfl⟩
      have hN5 := H500.out
      have hbl := HBL.out
      have q1 : IntKind.i64.wrap ((i : Int) + 1) = (i1 : Int) := by rw [IntKind.wrap_i64]; omega
      have bi : ((i : Int) < (N : Int)) = True := eq_true (by omega)
      have i0 : (0 : Int) ≤ (i : Int) := Int.natCast_nonneg _
      have iN : (i : Int) < (N : Int) := by omega
      have bn : (n != n) = false := by simp
      have HI1 := Lib.hid hi1
      have HNX := Lib.hid hnx
      have HIN2 := Lib.hid hi
      clear hput hn hch hi hik hnx hi1 hN hN5 hil
      rcases fits_c hf with ⟨hc, h0, h1⟩ | ⟨hc, h0, h1⟩ | ⟨hc, h0, h1⟩ | ⟨hc, h0, h1⟩
      · subst hc
        have hbd' : b.drop p = lowB 1 n ++ b.drop (p + 1) := hbd
        have hin : p + 1 ≤ b.length := by have h := piece_in hbd' (by rw [lowB_len]; omega); rwa [lowB_len] at h
        have v0 : b.getD p 0 = n / 256 ^ 0 % 256 := at_piece hbd' 0 (by rw [lowB_len]; omega)
        have vv : b.getD p 0 = n := by rw [v0]; omega
        obtain ⟨p1, hp1⟩ : ∃ p1, p1 = p + 1 := ⟨_, rfl⟩
        have qp : IntKind.i64.wrap ((p : Int) + 1) = (p1 : Int) := by rw [IntKind.wrap_i64]; omega
        have HHC := Lib.hid (HBY.out wr r HRW.out p (by omega))
        rw [vv] at HHC
        have HP1 : Hid (p1 ≤ b.length) := Lib.hid (by omega)
        have HNX2 : Hid (putR (l.drop (i + 1)) ((plan s).drop (i + 1)) = some (b.drop p1)) := Lib.hid (by rw [hp1]; exact HNX.out)
        have wn : IntKind.i64.wrap n = n := by rw [IntKind.wrap_i64]; omega
        clear v0 vv hbd hbd' hf h0 h1 hp1 hin hpb hbl
        go_wp2_with fail
        refine (HHC.out).mono ?_
        rintro e w3 ⟨rfl, rfl⟩
        go_wp2_with fail
        go_roundg (gk - 1)
        case measure => have := HIK.out; have := HIN2.out; have := HN.out; omega
        case rel => exact ⟨i1, p1, by have := HIK.out; have := HIN2.out; have := HN.out; have := HI1.out; omega, by first | rfl | exact congrArg _ (by omega), by first | rfl | exact congrArg _ (by omega), HP1.out, by rw [HI1.out]; exact HNX2.out, HBW.out⟩
      · subst hc
        have hbd' : b.drop p = lowB 2 n ++ b.drop (p + 2) := hbd
        have hin : p + 2 ≤ b.length := by have h := piece_in hbd' (by rw [lowB_len]; omega); rwa [lowB_len] at h
        have v0 : b.getD p 0 = n / 256 ^ 1 % 256 := at_piece hbd' 0 (by rw [lowB_len]; omega)
        have v1 : b.getD (p + 1) 0 = n / 256 ^ 0 % 256 := at_piece hbd' 1 (by rw [lowB_len]; omega)
        have vv : wordAt b p = n := by unfold wordAt; rw [v0, v1]; omega
        obtain ⟨p1, hp1⟩ : ∃ p1, p1 = p + 2 := ⟨_, rfl⟩
        have qp : IntKind.i64.wrap ((p : Int) + 2) = (p1 : Int) := by rw [IntKind.wrap_i64]; omega
        have HHC := Lib.hid (HWD.out wr r HRW.out p (by omega))
        rw [vv] at HHC
        have HP1 : Hid (p1 ≤ b.length) := Lib.hid (by omega)
        have HNX2 : Hid (putR (l.drop (i + 1)) ((plan s).drop (i + 1)) = some (b.drop p1)) := Lib.hid (by rw [hp1]; exact HNX.out)
        have wn : IntKind.i64.wrap n = n := by rw [IntKind.wrap_i64]; omega
        clear v0 v1 vv hbd hbd' hf h0 h1 hp1 hin hpb hbl
        go_wp2_with fail
        refine (HHC.out).mono ?_
        rintro e w3 ⟨rfl, hb3⟩
        have HB3 := Lib.hid (HBW.out.trans (hb3.mono HBW.out.size))
        have cn3 := cellsAt_below cn hb3
        clear hb3 cn
        go_wp2_with fail
        go_roundg (gk - 1)
        case measure => have := HIK.out; have := HIN2.out; have := HN.out; omega
        case rel => exact ⟨i1, p1, by have := HIK.out; have := HIN2.out; have := HN.out; have := HI1.out; omega, by first | rfl | exact congrArg _ (by omega), by first | rfl | exact congrArg _ (by omega), HP1.out, by rw [HI1.out]; exact HNX2.out, HB3.out⟩
      · subst hc
        have hbd' : b.drop p = lowB 2 n ++ b.drop (p + 2) := hbd
        have hin : p + 2 ≤ b.length := by have h := piece_in hbd' (by rw [lowB_len]; omega); rwa [lowB_len] at h
        have v0 : b.getD p 0 = n / 256 ^ 1 % 256 := at_piece hbd' 0 (by rw [lowB_len]; omega)
        have v1 : b.getD (p + 1) 0 = n / 256 ^ 0 % 256 := at_piece hbd' 1 (by rw [lowB_len]; omega)
        have vv : IntKind.i16.wrap (wordAt b p) = n := by unfold wordAt; rw [v0, v1, wrap_i16]; omega
        obtain ⟨p1, hp1⟩ : ∃ p1, p1 = p + 2 := ⟨_, rfl⟩
        have qp : IntKind.i64.wrap ((p : Int) + 2) = (p1 : Int) := by rw [IntKind.wrap_i64]; omega
        have HHC := Lib.hid (HIN.out wr r HRW.out p (by omega))
        rw [vv] at HHC
        have HP1 : Hid (p1 ≤ b.length) := Lib.hid (by omega)
        have HNX2 : Hid (putR (l.drop (i + 1)) ((plan s).drop (i + 1)) = some (b.drop p1)) := Lib.hid (by rw [hp1]; exact HNX.out)
        have wn : IntKind.i64.wrap n = n := by rw [IntKind.wrap_i64]; omega
        clear v0 v1 vv hbd hbd' hf h0 h1 hp1 hin hpb hbl
        go_wp2_with fail
        refine (HHC.out).mono ?_
        rintro e w3 ⟨rfl, hb3⟩
        have HB3 := Lib.hid (HBW.out.trans (hb3.mono HBW.out.size))
        have cn3 := cellsAt_below cn hb3
        clear hb3 cn
        go_wp2_with fail
        go_roundg (gk - 1)
        case measure => have := HIK.out; have := HIN2.out; have := HN.out; omega
        case rel => exact ⟨i1, p1, by have := HIK.out; have := HIN2.out; have := HN.out; have := HI1.out; omega, by first | rfl | exact congrArg _ (by omega), by first | rfl | exact congrArg _ (by omega), HP1.out, by rw [HI1.out]; exact HNX2.out, HB3.out⟩
      · subst hc
        have hbd' : b.drop p = lowB 4 n ++ b.drop (p + 4) := hbd
        have hin : p + 4 ≤ b.length := by have h := piece_in hbd' (by rw [lowB_len]; omega); rwa [lowB_len] at h
        have v0 : b.getD p 0 = n / 256 ^ 3 % 256 := at_piece hbd' 0 (by rw [lowB_len]; omega)
        have v1 : b.getD (p + 1) 0 = n / 256 ^ 2 % 256 := at_piece hbd' 1 (by rw [lowB_len]; omega)
        have v2 : b.getD (p + 2) 0 = n / 256 ^ 1 % 256 := at_piece hbd' 2 (by rw [lowB_len]; omega)
        have v3 : b.getD (p + 3) 0 = n / 256 ^ 0 % 256 := at_piece hbd' 3 (by rw [lowB_len]; omega)
        have vv : wordAt b p * 65536 + wordAt b (p + 2) = n := by unfold wordAt; rw [v0, v1, v2, v3]; omega
        obtain ⟨p1, hp1⟩ : ∃ p1, p1 = p + 4 := ⟨_, rfl⟩
        have qp : IntKind.i64.wrap ((p : Int) + 4) = (p1 : Int) := by rw [IntKind.wrap_i64]; omega
        have HHC := Lib.hid (HLG.out wr r HRW.out p (by omega))
        rw [vv] at HHC
        have HP1 : Hid (p1 ≤ b.length) := Lib.hid (by omega)
        have HNX2 : Hid (putR (l.drop (i + 1)) ((plan s).drop (i + 1)) = some (b.drop p1)) := Lib.hid (by rw [hp1]; exact HNX.out)
        have wn : IntKind.i64.wrap n = n := by rw [IntKind.wrap_i64]; omega
        clear v0 v1 v2 v3 vv hbd hbd' hf h0 h1 hp1 hin hpb hbl
        go_wp2_with fail
        refine (HHC.out).mono ?_
        rintro e w3 ⟨rfl, hb3⟩
        have HB3 := Lib.hid (HBW.out.trans (hb3.mono HBW.out.size))
        have cn3 := cellsAt_below cn hb3
        clear hb3 cn
        go_wp2_with fail
        go_roundg (gk - 1)
        case measure => have := HIK.out; have := HIN2.out; have := HN.out; omega
        case rel => exact ⟨i1, p1, by have := HIK.out; have := HIN2.out; have := HN.out; have := HI1.out; omega, by first | rfl | exact congrArg _ (by omega), by first | rfl | exact congrArg _ (by omega), HP1.out, by rw [HI1.out]; exact HNX2.out, HB3.out⟩
end Go.Proofs.Ytpnlopmmcclhiaa
