/-
  bin.Put, where a letter's kind is told by a function.
-/
import Derived.Test.YtlpnikolnohcaaaKind
import Derived.Test.YtlpnikolnohcaaaRefPut2
namespace Go.Proofs.Ytlpnikolnohcaaa
open Go Go.RowKit

set_option maxHeartbeats 20000000 in
set_option maxRecDepth 20000 in
theorem put_any : PutC 72 := by
  intro w v l s hv hl hs
  have HV := Lib.hid hv
  obtain ⟨A, c, rfl, _, _, _⟩ := hv
  rename_i g1 g2 g3
  obtain ⟨N, hN⟩ : ∃ N, N = l.length := ⟨_, rfl⟩
  have HN := Lib.hid hN
  rw [← hN] at HV ⊢
  have b1 : (16777216 < (N : Int)) = False := eq_false (by omega)
  by_cases hlen : l.length = s.size
  · have HA : Hid ((∀ b, putR l (plan s) = some b → putA l s = (0, b)) ∧ (putR l (plan s) = none → putA l s = (2, []))) := Lib.hid ⟨fun b hb => by unfold putA; rw [if_pos hlen, hb], fun hb => by unfold putA; rw [if_pos hlen, hb]⟩
    have hNs : N = s.size := by omega
    have b2 : ((s.size : Int) != (N : Int)) = false := by rw [hNs]; simp
    have HLP : Hid (l.length = (plan s).length) := Lib.hid (by rw [plan_len]; exact hlen)
    have HNS := Lib.hid hNs
    have HL6 := Lib.hid hl
    have HS0 : Hid (putR l (plan s) = (putR (l.drop 0) ((plan s).drop 0)).map ([] ++ ·)) := Lib.hid (by simp)
    obtain ⟨q, hq⟩ : ∃ q, q = putA l s := ⟨_, rfl⟩
    rw [← hq] at HA ⊢
    clear g1 g2 g3 hN hl hs hlen hNs hq
    go_enter Try.func72, Try.ntmps72
    go_wp2_with fail
    go_loopg [6, 20] N (fun k vo vi wr => RPRel w l (plan s) k vo vi wr)
    case atStart => exact ⟨_, 0, [], rfl, by have := HN.out; omega, rfl, OwnB.nil _ _, Below.refl _ _, Nat.zero_le _, HS0.out⟩
    case round =>
      obtain ⟨vo, i, bs, rfl, hik, rfl, how, hb, hbl, hput⟩ := hrel
      have HOW := Lib.hid how
      have HBW := Lib.hid hb
      have HIK := Lib.hid hik
      have HBL := Lib.hid hbl
      clear how
      by_cases hi : i = N
      · have bi : ((i : Int) < (N : Int)) = False := eq_false (by omega)
        have HRES : Hid (q = (0, bs)) := Lib.hid (by
          exact HA.out.1 bs (by rw [hput, hi, HN.out, List.drop_length]; simp [putR]))
        clear hi hik hbl hput hb
        go_wp2_with fail
        go_ret2
        refine ⟨HBW.out, vo, ?_, ?_⟩
        · rw [HRES.out]; rfl
        · rw [HRES.out]; exact HOW.out
      · have hil : i < l.length := by have := HN.out; omega
        obtain ⟨hno, hyes⟩ := putR_next hil HLP.out bs hput
        have hidx := fun W => idx_s W s i (by have := HNS.out; have := HN.out; omega)
        obtain ⟨g, off, rfl, _, hc⟩ := (HV.out.below hb).cells (by rintro rfl; simp at hil)
        have cn := hc i hil
        obtain ⟨n, hn⟩ : ∃ n, n = l[i] := ⟨_, rfl⟩
        rw [← hn] at cn hno hyes
        have hcb := plan_b s i
        obtain ⟨ch, hch⟩ : ∃ ch, ch = (plan s).getD i 0 := ⟨_, rfl⟩
        rw [← hch] at hno hyes hcb
        simp only [← hch] at hidx
        obtain ⟨lo, hi', sz, hsz, hsz4, hfit, hkd⟩ := kindOf_any ch
        obtain ⟨i1, hi1⟩ : ∃ i1, i1 = i + 1 := ⟨_, rfl⟩
        have q1 : IntKind.i64.wrap ((i : Int) + 1) = (i1 : Int) := by rw [IntKind.wrap_i64]; have := HL6.out; omega
        have bi : ((i : Int) < (N : Int)) = True := eq_true (by have := HN.out; omega)
        have i0 : (0 : Int) ≤ (i : Int) := Int.natCast_nonneg _
        have iN : (i : Int) < (N : Int) := by have := HN.out; omega
        have iS : (i : Int) < (s.size : Int) := by have := HNS.out; omega
        have HKD := Lib.hid hkd
        have HFIT := Lib.hid hfit
        have HSZ := Lib.hid hsz
        have HSZ4 := Lib.hid hsz4
        have HI1 := Lib.hid hi1
        have HIN := Lib.hid hi
        have HNO := Lib.hid hno
        have HYES := Lib.hid hyes
        clear hik hi hno hyes hn hch hi1 hc hput hcb hil hkd hfit hsz hsz4 hb hbl
        go_wp2_with fail
        refine (HKD.out _).mono ?_
        rintro e wc ⟨hbc, rfl⟩
        have HB5 := Lib.hid (HBW.out.trans (hbc.mono HBW.out.size))
        have HO5 := Lib.hid (ownB_stays HOW.out hbc)
        have HCALL := Lib.hid (kindPut_any w.heap.size wc lo hi' sz HSZ4.out vo bs HO5.out (by have := HBL.out; have := HIK.out; have := HL6.out; omega) HB5.out.size n)
        clear hbc
        go_wp2_with fail
        refine (HCALL.out).mono ?_
        rintro e w6 ⟨hk6, hres⟩
        have HB6 := Lib.hid (hk6 _ HB5.out)
        rcases hres with ⟨h1, h2, v', rfl, how6⟩ | ⟨hn, rfl⟩
        · have HNEW : Hid (RPRel w l (plan s) (gk - 1) v' (.int .i64 (i1 : Int)) w6) := Lib.hid ⟨v', i1, bs ++ lowB sz n, rfl, by have := HIK.out; have := HIN.out; have := HN.out; have := HI1.out; omega, rfl, how6, HB6.out, by
              have h3 := HBL.out
              have h4 := HI1.out
              have h5 := sizeC_le ch
              rw [HSZ.out]
              simp [lowB_len]; omega, by
              rw [HSZ.out, HI1.out]
              exact HYES.out ((HFIT.out n).2 ⟨h1, h2⟩)⟩
          clear h1 h2 how6 hk6
          go_wp2_with fail
          go_roundg (gk - 1)
          case measure => have := HIK.out; have := HIN.out; have := HN.out; omega
          case rel => exact HNEW.out
        · have HRES : Hid (q = (2, [])) := Lib.hid (HA.out.2 (HNO.out (by
            cases hf : fitsC ch n with
            | false => rfl
            | true => exact absurd ((HFIT.out n).1 hf) hn)))
          clear hn hk6
          go_wp2_with fail
          go_ret2
          refine ⟨HB6.out, .slice none 0 0, ?_, ?_⟩
          · rw [HRES.out]; rfl
          · rw [HRES.out]; exact OwnB.nil _ _
  · have HA : Hid (putA l s = (2, [])) := Lib.hid (by unfold putA; rw [if_neg hlen])
    have b2 : ((s.size : Int) != (N : Int)) = true := by simp; omega
    clear g1 g2 g3 hN hl hs hlen
    go_enter Try.func72, Try.ntmps72
    go_wp2_with fail
    go_ret2
    refine ⟨Below.refl _ _, .slice none 0 0, ?_, ?_⟩
    · rw [HA.out]; rfl
    · rw [HA.out]; exact OwnB.nil _ _
end Go.Proofs.Ytlpnikolnohcaaa
