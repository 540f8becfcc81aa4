/-
  Several texts in one: PutW, NumP, LenP, Rd2, Flt.
-/
import Derived.Test.YtijmponhkabeiaaM3
import Derived.Test.YtijmponhkabeiaaM2
import Derived.Deep.OwnRows
import Derived.Handy
import Derived.Lib.SliceRun
import Derived.Recover
import Derived.Laws.NewBlocks
namespace Go.Proofs.Ytijmponhkabeiaa
open Go Go.RowKit

set_option maxHeartbeats 20000000 in
set_option maxRecDepth 20000 in
theorem put_any : PutC 72 := by
  intro w v l s hv hl hs
  have HV := Lib.hid hv
  obtain ⟨A, c, rfl, _, _, _⟩ := hv
  rename_i g1 g2 g3
  obtain ⟨N, hN⟩ : ∃ N, N = l.length := ⟨_, rfl⟩
  have HN := Lib.hid hN
  rw [← hN] at HV ⊢
  have b1 : (16777216 < (N : Int)) = False := eq_false (by omega)
  by_cases hlen : l.length = s.size
  · have HA : Hid ((∀ b, putR l (plan s) = some b → putA l s = (0, b)) ∧ (putR l (plan s) = none → putA l s = (2, []))) := Lib.hid ⟨fun b hb => by unfold putA; rw [if_pos hlen, hb], fun hb => by unfold putA; rw [if_pos hlen, hb]⟩
    have hNs : N = s.size := by omega
    have b2 : ((s.size : Int) != (N : Int)) = false := by rw [hNs]; simp
    have HLP : Hid (l.length = (plan s).length) := Lib.hid (by rw [plan_len]; exact hlen)
    have HNS := Lib.hid hNs
    have HL6 := Lib.hid hl
    have HS0 : Hid (putR l (plan s) = (putR (l.drop 0) ((plan s).drop 0)).map ([] ++ ·)) := Lib.hid (by simp)
    obtain ⟨q, hq⟩ : ∃ q, q = putA l s := ⟨_, rfl⟩
    rw [← hq] at HA ⊢
    clear g1 g2 g3 hN hl hs hlen hNs hq
    go_enter Try.func72, Try.ntmps72
    go_wp2_with fail
    go_loopg [6, 20] N (fun k vo vi wr => RPRel w l (plan s) k vo vi wr)
    case atStart => exact ⟨_, 0, [], rfl, by have := HN.out; omega, rfl, OwnB.nil _ _, Below.refl _ _, Nat.zero_le _, HS0.out⟩
    case round =>
      obtain ⟨vo, i, bs, rfl, hik, rfl, how, hb, hbl, hput⟩ := hrel
      have HOW := Lib.hid how
      have HBW := Lib.hid hb
      have HIK := Lib.hid hik
      have HBL := Lib.hid hbl
      clear how
      by_cases hi : i = N
      · have bi : ((i : Int) < (N : Int)) = False := eq_false (by omega)
        have HRES : Hid (q = (0, bs)) := Lib.hid (by
          exact HA.out.1 bs (by rw [hput, hi, HN.out, List.drop_length]; simp [putR]))
        clear hi hik hbl hput hb
        go_wp2_with fail
        go_ret2
        refine ⟨HBW.out, vo, ?_, ?_⟩
        · rw [HRES.out]; rfl
        · rw [HRES.out]; exact HOW.out
      · have hil : i < l.length := by have := HN.out; omega
        obtain ⟨hno, hyes⟩ := putR_next hil HLP.out bs hput
        have hidx := fun W => idx_s W s i (by have := HNS.out; have := HN.out; omega)
        obtain ⟨g, off, rfl, _, hc⟩ := (HV.out.below hb).cells (by rintro rfl; simp at hil)
        have cn := hc i hil
        obtain ⟨n, hn⟩ : ∃ n, n = l[i] := ⟨_, rfl⟩
        rw [← hn] at cn hno hyes
        have hcb := plan_b s i
        obtain ⟨ch, hch⟩ : ∃ ch, ch = (plan s).getD i 0 := ⟨_, rfl⟩
        rw [← hch] at hno hyes hcb
        simp only [← hch] at hidx
        obtain ⟨lo, hi', sz, hsz, hsz4, hfit, hkd⟩ := kindOf_any ch
        obtain ⟨i1, hi1⟩ : ∃ i1, i1 = i + 1 := ⟨_, rfl⟩
        have q1 : IntKind.i64.wrap ((i : Int) + 1) = (i1 : Int) := by rw [IntKind.wrap_i64]; have := HL6.out; omega
        have bi : ((i : Int) < (N : Int)) = True := eq_true (by have := HN.out; omega)
        have i0 : (0 : Int) ≤ (i : Int) := Int.natCast_nonneg _
        have iN : (i : Int) < (N : Int) := by have := HN.out; omega
        have iS : (i : Int) < (s.size : Int) := by have := HNS.out; omega
        have HKD := Lib.hid hkd
        have HFIT := Lib.hid hfit
        have HSZ := Lib.hid hsz
        have HSZ4 := Lib.hid hsz4
        have HI1 := Lib.hid hi1
        have HIN := Lib.hid hi
        have HNO := Lib.hid hno
        have HYES := Lib.hid hyes
        clear hik hi hno hyes hn hch hi1 hc hput hcb hil hkd hfit hsz hsz4 hb hbl
        go_wp2_with fail
        refine (HKD.out _).mono ?_
        rintro e wc ⟨hbc, rfl⟩
        have HB5 := Lib.hid (HBW.out.trans (hbc.mono HBW.out.size))
        have HO5 := Lib.hid (ownB_stays HOW.out hbc)
        have HCALL := Lib.hid (kindPut_any w.heap.size wc lo hi' sz HSZ4.out vo bs HO5.out (by have := HBL.out; have := HIK.out; have := HL6.out; omega) HB5.out.size n)
        clear hbc
        go_wp2_with fail
        refine (HCALL.out).mono ?_
        rintro e w6 ⟨hk6, hres⟩
        have HB6 := Lib.hid (hk6 _ HB5.out)
        rcases hres with ⟨h1, h2, v', rfl, how6⟩ | ⟨hn, rfl⟩
        · have HNEW : Hid (RPRel w l (plan s) (gk - 1) v' (.int .i64 (i1 : Int)) w6) := Lib.hid ⟨v', i1, bs ++ lowB sz n, rfl, by have := HIK.out; have := HIN.out; have := HN.out; have := HI1.out; omega, rfl, how6, HB6.out, by
              have h3 := HBL.out
              have h4 := HI1.out
              have h5 := sizeC_le ch
              rw [HSZ.out]
              simp [lowB_len]; omega, by
              rw [HSZ.out, HI1.out]
              exact HYES.out ((HFIT.out n).2 ⟨h1, h2⟩)⟩
          clear h1 h2 how6 hk6
          go_wp2_with fail
          go_roundg (gk - 1)
          case measure => have := HIK.out; have := HIN.out; have := HN.out; omega
          case rel => exact HNEW.out
        · have HRES : Hid (q = (2, [])) := Lib.hid (HA.out.2 (HNO.out (by
            cases hf : fitsC ch n with
            | false => rfl
            | true => exact absurd ((HFIT.out n).1 hf) hn)))
          clear hn hk6
          go_wp2_with fail
          go_ret2
          refine ⟨HB6.out, .slice none 0 0, ?_, ?_⟩
          · rw [HRES.out]; rfl
          · rw [HRES.out]; exact OwnB.nil _ _
  · have HA : Hid (putA l s = (2, [])) := Lib.hid (by unfold putA; rw [if_neg hlen])
    have b2 : ((s.size : Int) != (N : Int)) = true := by simp; omega
    clear g1 g2 g3 hN hl hs hlen
    go_enter Try.func72, Try.ntmps72
    go_wp2_with fail
    go_ret2
    refine ⟨Below.refl _ _, .slice none 0 0, ?_, ?_⟩
    · rw [HA.out]; rfl
    · rw [HA.out]; exact OwnB.nil _ _
end Go.Proofs.Ytijmponhkabeiaa

namespace Go.Proofs.Ytijmponhkabeiaa
open Go Go.RowKit

theorem infoI64 : (Try.prog.info? 2).map (fun i => (i.zero, i.size, i.bytes)) = some (some (.int .i64 0), 1, 8) := by kernel_rfl

theorem made_getI (z : Value) (n j : Nat) (h : j < n) : (madeCells #[z] n)[j]? = some z := by
  rw [Array.getElem?_eq_getElem (by simp [size_madeCells]; exact h)]
  simp [madeCells, Nat.mod_one]

def NuRel (w : World) (l : List Int) (g k : Nat) (vi : Value) (wr : World) : Prop := ∃ i : Nat, i + k = l.length ∧ vi = .int .i64 (i : Int) ∧ Below w.heap.size w wr ∧ g < wr.heap.size ∧ ∀ j (h : j < l.length), wr.frozen? ⟨g, j, none⟩ = false ∧ (∃ z, wr.cell? ⟨g, j, none⟩ = some (.int .i64 z)) ∧ (j < i → wr.cell? ⟨g, j, none⟩ = some (.int .i64 l[j]))

set_option maxHeartbeats 2000000 in
set_option maxRecDepth 20000 in
theorem numbers_any (w : World) (v : Value) (l : List Int) (s : ByteArray) (hv : NumZ .i64 w v l) (hl : l.length ≤ 1000) (hs : s.size ≤ 1000) :
    Calls Try.prog 61 #[.string s, v] w fun e w' => Below w.heap.size w w' ∧ ∃ r B, e = .returned r ∧ w.heap.size ≤ B ∧ OwnB B w' r (putA l s).2 := by
  have HP : Hid (∀ wx vx, NumZ .i64 wx vx l → Calls Try.prog 72 #[vx, .string s] wx fun e w' => Below wx.heap.size wx w' ∧ ∃ r, e = .returned (.tuple #[r, .int .i64 (putA l s).1]) ∧ OwnB wx.heap.size w' r (putA l s).2) := Lib.hid (fun wx vx h => put_any wx vx l s h (by omega) (by omega))
  obtain ⟨q, hq⟩ : ∃ q, q = putA l s := ⟨_, rfl⟩
  rw [← hq] at HP ⊢
  have HV := Lib.hid hv
  obtain ⟨A, c, rfl, hc1, hc2, hcell⟩ := hv
  obtain ⟨n, hn⟩ : ∃ n, n = l.length := ⟨_, rfl⟩
  have HN := Lib.hid hn
  rw [← hn] at hl HV ⊢
  obtain ⟨w0, hw0⟩ : ∃ w0, w.alloc (.cells (madeCells #[.int .i64 0] n) 2) = w0 := ⟨_, rfl⟩
  have hmk : (Instr.makeSlice 69 (.int .i64 (n : Int)) (.int .i64 (n : Int))).run Try.prog w = .ok (.slice (some ⟨w.heap.size, 0, none⟩) n n) w0 := by
    rw [← hw0]
    exact run_make_row' (P := Try.prog) 69 2 (.int .i64 0) 8 Try.underlying69 infoI64 rfl .i64 .i64 n (by omega) (by omega) w
  obtain ⟨g, hg⟩ : ∃ g, g = w.heap.size := ⟨_, rfl⟩
  have HG := Lib.hid hg
  have HS : Hid (NuRel w l g n (.int .i64 0) w0) := Lib.hid ⟨0, by omega, rfl, by rw [← hw0]; exact (Below.refl _ w).alloc (Nat.le_refl _) _, by rw [← hw0, hg]; exact heap_more _ _, fun j hj => by
    have hc : w0.cell? ⟨g, j, none⟩ = some (.int .i64 0) := by
      rw [← hw0, hg, cell_of_row _ w.heap.size j _ _ _ (heap_alloc_new w _), made_getI _ n j (by omega)]
    exact ⟨by rw [← hw0, hg]; exact World.frozen?_alloc_new _ _ _ _, ⟨_, hc⟩, fun h => absurd h (Nat.not_lt_zero _)⟩⟩
  rw [← hg] at hmk
  have HGE : Hid (w.heap.size ≤ g) := Lib.hid (by omega)
  have HL := Lib.hid hl
  clear hw0 hg hn hc1 hc2 hcell hs hq
  go_enter Try.func61, Try.ntmps61
  go_wp2_with fail
  clear hmk
  go_loopg [15] n (fun k vi wr => NuRel w l g k vi wr)
  case atStart => exact HS.out
  case round =>
    obtain ⟨i, hik, rfl, hb, hgl, hcs⟩ := hrel
    have HB := Lib.hid hb
    have HCS := Lib.hid hcs
    have HGL := Lib.hid hgl
    have HIK := Lib.hid hik
    by_cases hi : i = n
    · have bi : ((i : Int) < (n : Int)) = False := eq_false (by omega)
      have HZ : Hid (NumZ .i64 wr (.slice (some ⟨g, 0, none⟩) n n) l) := Lib.hid (by
        refine ⟨some ⟨g, 0, none⟩, n, by rw [HN.out], by rw [HN.out]; exact Nat.le_refl _, by omega, fun _ => ⟨g, 0, rfl, hgl, fun j hj => ?_⟩⟩
        rw [Nat.zero_add, (hcs j hj).2.2 (by rw [hi, HN.out]; exact hj)])
      clear hi hik hcs hgl hb
      go_wp2_with fail
      refine (HP.out _ _ HZ.out).mono ?_
      rintro e w2 ⟨hb2, r, rfl, how⟩
      have HB2 := Lib.hid (HB.out.trans (hb2.mono HB.out.size))
      have HOW := Lib.hid how
      clear hb2 how
      go_wp2_with fail
      go_ret
      exact ⟨HB2.out, _, _, rfl, HB.out.size, HOW.out⟩
    · have bi : ((i : Int) < (n : Int)) = True := eq_true (by have := HN.out; omega)
      have iN : (i : Int) < (n : Int) := by have := HN.out; omega
      have i0 : (0 : Int) ≤ (i : Int) := Int.natCast_nonneg _
      have hil : i < l.length := by have := HN.out; omega
      obtain ⟨gv, off, rfl, _, hcell⟩ := (HV.out.below hb).cells (by rintro rfl; simp at hil)
      have cx := hcell i hil
      obtain ⟨i1, hi1⟩ : ∃ i1, i1 = i + 1 := ⟨_, rfl⟩
      have q3 : IntKind.i64.wrap ((i : Int) + 1) = (i1 : Int) := by rw [IntKind.wrap_i64]; have := HL.out; omega
      obtain ⟨x, hx⟩ : ∃ x, x = l[i] := ⟨_, rfl⟩
      rw [← hx] at cx
      obtain ⟨hfz, ⟨z, hz⟩, _⟩ := hcs i hil
      have HX := Lib.hid hx
      have HI1 := Lib.hid hi1
      have HIN := Lib.hid hi
      have HIL := Lib.hid hil
      clear hi hik hcs hgl hb hi1 hcell hx
      go_wp2_with fail
      have HNXT : Hid (NuRel w l g (gk - 1) (.int .i64 (i1 : Int)) (wr.setCell ⟨g, i, none⟩ (.int .i64 x))) := Lib.hid ⟨i1, by have := HI1.out; have := HIK.out; have := HIN.out; have := HN.out; omega, rfl, HB.out.setCell (p := ⟨g, i, none⟩) HGE.out _, Nat.lt_of_lt_of_le HGL.out ((Below.refl 0 wr).setCell (p := ⟨g, i, none⟩) (Nat.zero_le _) _).size, fun j hj => by
        obtain ⟨h1, ⟨z', h2⟩, h3⟩ := HCS.out j hj
        refine ⟨by rw [World.frozen?_setCell]; exact h1, ?_, fun h => ?_⟩
        · by_cases hji : j = i
          · subst hji; exact ⟨x, World.cell?_setCell_same _ _ _ hz⟩
          · exact ⟨z', by rw [World.cell?_setCell_other _ _ _ _ (fun e => hji (by injection e with _ e _; exact e.symm))]; exact h2⟩
        · by_cases hji : j = i
          · subst hji; rw [World.cell?_setCell_same _ _ _ hz, HX.out]
          · rw [World.cell?_setCell_other _ _ _ _ (fun e => hji (by injection e with _ e _; exact e.symm))]
            exact h3 (by have := HI1.out; omega)⟩
      clear hfz hz
      go_wp2_with fail
      go_roundg (gk - 1)
      case measure => have := HIK.out; have := HIN.out; have := HN.out; omega
      case rel => exact HNXT.out
end Go.Proofs.Ytijmponhkabeiaa

namespace Go.Proofs.Ytijmponhkabeiaa
open Go Go.RowKit

/-- how many bits the numbers up to 64 have -/
def bitsTab : List UInt8 := [0, 1, 2, 2, 3, 3, 3, 3, 4, 4, 4, 4, 4, 4, 4, 4, 5, 5, 5, 5, 5, 5, 5, 5, 5, 5, 5, 5, 5, 5, 5, 5, 6, 6, 6, 6, 6, 6, 6, 6, 6, 6, 6, 6, 6, 6, 6, 6, 6, 6, 6, 6, 6, 6, 6, 6, 6, 6, 6, 6, 6, 6, 6, 6, 7]

theorem tab_len (T : ByteArray) (n : Nat) (h1 : 1 ≤ n) (h2 : n ≤ 64) (i : Nat) (hi : i = n) (h : i < T.size) (hT : T.data.toList.take 65 = bitsTab) : wrap64 (wrap64 (((T[i]'h).toNat : Nat) : Int)) = ((Nat.log2 n + 1 : Nat) : Int) := by
  subst hi
  have h65 : i < (T.data.toList.take 65).length := by rw [hT]; show i < 65; omega
  have e : T[i]'h = (T.data.toList.take 65)[i]'h65 := by
    rw [List.getElem_take]; rfl
  have key : ∀ k : Fin 65, 1 ≤ k.val → (bitsTab.getD k.val 0).toNat = Nat.log2 k.val + 1 := by decide
  have hk := key ⟨i, by omega⟩ h1
  have e2 : (T.data.toList.take 65)[i]'h65 = bitsTab.getD i 0 := by
    rw [List.getD_eq_getElem?_getD, ← hT, List.getElem?_eq_getElem h65]; rfl
  rw [e, e2]
  simp only [] at hk
  rw [hk]
  have hb : Nat.log2 i < 7 := (Nat.log2_lt (by omega)).2 (by omega)
  unfold wrap64
  omega

set_option maxHeartbeats 4000000 in
set_option maxRecDepth 20000 in
theorem len64_any (w : World) (n : Nat) (h1 : 1 ≤ n) (h2 : n ≤ 64) : Calls Try.prog 76 #[.int .u64 (n : Int)] w fun e w' => e = .returned (.int .i64 ((Nat.log2 n + 1 : Nat) : Int)) ∧ w = w' := by
  have b1 : ((4294967296 : Int) ≤ (n : Int)) = False := eq_false (by omega)
  have b2 : ((65536 : Int) ≤ (n : Int)) = False := eq_false (by omega)
  have b3 : ((256 : Int) ≤ (n : Int)) = False := eq_false (by omega)
  have q1 : IntKind.u8.wrap (n : Int) = (n : Int) := by rw [wrap_u8]; omega
  have i0 : (0 : Int) ≤ (n : Int) := Int.natCast_nonneg _
  have iN : (n : Int) < 256 := by omega
  have iM : n < 256 := by omega
  go_enter Try.func76, Try.ntmps76
  go_wp2_with fail
  go_ret
  refine ⟨?_, rfl⟩
  refine congrArg (fun x => Ending.returned (.int .i64 x)) ?_
  refine tab_len _ n h1 h2 _ ?_ _ ?_
  · simp
  · kernel_rfl

set_option maxRecDepth 20000 in
theorem len_any (w : World) (n : Nat) (h1 : 1 ≤ n) (h2 : n ≤ 64) : Calls Try.prog 70 #[.int .u64 (n : Int)] w fun e w' => e = .returned (.int .i64 ((Nat.log2 n + 1 : Nat) : Int)) ∧ w = w' := by
  have H := Lib.hid (len64_any w n h1 h2)
  generalize Nat.log2 n + 1 = q at H ⊢
  clear h1 h2
  go_enter Try.func70, Try.ntmps70
  go_wp2_with fail
  refine (H.out).mono ?_
  rintro e w1 ⟨rfl, rfl⟩
  go_wp2_with fail
  go_ret
  exact ⟨rfl, rfl⟩

set_option maxRecDepth 20000 in
theorem countable_any (w : World) (n : Int) : Calls Try.prog 48 #[.int .i64 n] w fun e w' => e = .returned (.bool (decide (1 ≤ n) && decide (n ≤ 64))) ∧ w = w' := by
  by_cases h1 : 1 ≤ n
  · have b1 : ((1 : Int) ≤ n) = True := eq_true h1
    by_cases h2 : n ≤ 64
    · have b2 : (n ≤ 64) = True := eq_true h2
      have HR : Hid ((decide (1 ≤ n) && decide (n ≤ 64)) = true) := Lib.hid (by simp [h1, h2])
      generalize (decide (1 ≤ n) && decide (n ≤ 64)) = R at HR ⊢
      clear h1 h2
      go_enter Try.func48, Try.ntmps48
      go_wp2_with fail
      go_ret
      exact ⟨by rw [HR.out]; rfl, rfl⟩
    · have b2 : (n ≤ 64) = False := eq_false h2
      have HR : Hid ((decide (1 ≤ n) && decide (n ≤ 64)) = false) := Lib.hid (by simp [h2])
      generalize (decide (1 ≤ n) && decide (n ≤ 64)) = R at HR ⊢
      clear h1 h2
      go_enter Try.func48, Try.ntmps48
      go_wp2_with fail
      go_ret
      exact ⟨by rw [HR.out]; rfl, rfl⟩
  · have b1 : ((1 : Int) ≤ n) = False := eq_false h1
    have HR : Hid ((decide (1 ≤ n) && decide (n ≤ 64)) = false) := Lib.hid (by simp [h1])
    generalize (decide (1 ≤ n) && decide (n ≤ 64)) = R at HR ⊢
    clear h1
    go_enter Try.func48, Try.ntmps48
    go_wp2_with fail
    go_ret
    exact ⟨by rw [HR.out]; rfl, rfl⟩

set_option maxRecDepth 20000 in
theorem begin_any (w : World) (n : Nat) (hn : n ≤ 1000000) : Calls Try.prog 49 #[.int .i64 (n : Int)] w fun e w' => e = .returned (.int .i64 ((12 + 16 * n : Nat) : Int)) ∧ w = w' := by
  obtain ⟨m, hm⟩ : ∃ m, m = n * 16 := ⟨_, rfl⟩
  obtain ⟨q, hq⟩ : ∃ q, q = 12 + 16 * n := ⟨_, rfl⟩
  rw [← hq]
  have q1 : IntKind.i64.wrap ((n : Int) * 16) = (m : Int) := by rw [IntKind.wrap_i64]; omega
  have q2 : IntKind.i64.wrap (12 + (m : Int)) = (q : Int) := by rw [IntKind.wrap_i64]; omega
  clear hm hq hn
  go_enter Try.func49, Try.ntmps49
  go_wp2_with fail
  go_ret
  exact ⟨rfl, rfl⟩

set_option maxRecDepth 20000 in
theorem filled_any (w : World) (n : Nat) (hn : n ≤ 1000000000) : Calls Try.prog 63 #[.int .i64 (n : Int)] w fun e w' => e = .returned (.int .i64 (((n + 3) / 4 * 4 : Nat) : Int)) ∧ w = w' := by
  obtain ⟨m, hm⟩ : ∃ m, m = n + 4 := ⟨_, rfl⟩
  obtain ⟨k, hk⟩ : ∃ k, k = n + 3 := ⟨_, rfl⟩
  obtain ⟨d, hd⟩ : ∃ d, d = k / 4 := ⟨_, rfl⟩
  obtain ⟨q, hq⟩ : ∃ q, q = d * 4 := ⟨_, rfl⟩
  rw [← hk, ← hd, ← hq]
  have q1 : IntKind.i64.wrap ((n : Int) + 4) = (m : Int) := by rw [IntKind.wrap_i64]; omega
  have q2 : IntKind.i64.wrap ((m : Int) - 1) = (k : Int) := by rw [IntKind.wrap_i64]; omega
  have q3 : IntKind.i64.wrap ((k : Int) / 4) = (d : Int) := by rw [IntKind.wrap_i64]; omega
  have q4 : IntKind.i64.wrap ((d : Int) * 4) = (q : Int) := by rw [IntKind.wrap_i64]; omega
  clear hm hk hd hq hn
  go_enter Try.func63, Try.ntmps63
  go_wp2_with fail
  go_ret
  exact ⟨rfl, rfl⟩

set_option maxHeartbeats 2000000 in
set_option maxRecDepth 20000 in
theorem opening_any (w : World) (n : Nat) (h1 : 1 ≤ n) (h2 : n ≤ 64) : Calls Try.prog 51 #[.int .i64 (n : Int)] w fun e w' => Below w.heap.size w w' ∧ ∃ r B, e = .returned r ∧ w.heap.size ≤ B ∧ OwnB B w' r (headL n) := by
  have HLN := Lib.hid (fun w => len_any w n h1 h2)
  have HPT := fun wx v hv => numbers_any wx v [65536, (n : Int), ((16 * 2 ^ Nat.log2 n : Nat) : Int), ((Nat.log2 n : Nat) : Int), ((16 * n - 16 * 2 ^ Nat.log2 n : Nat) : Int)] ⟨#[73, 72, 72, 72, 72]⟩ hv (by simp) (by decide)
  have hpn : 2 ^ Nat.log2 n ≤ n := (Nat.le_log2 (by omega)).1 (Nat.le_refl _)
  have he6 : Nat.log2 n ≤ 6 := by
    have : n.log2 < 7 := (Nat.log2_lt (by omega)).2 (by omega)
    omega
  unfold headL
  obtain ⟨e, he⟩ : ∃ e, e = Nat.log2 n := ⟨_, rfl⟩
  rw [← he] at HLN hpn HPT he6 ⊢
  obtain ⟨p, hp⟩ : ∃ p, p = 2 ^ e := ⟨_, rfl⟩
  rw [← hp] at hpn HPT ⊢
  obtain ⟨p16, hp16⟩ : ∃ x, x = 16 * p := ⟨_, rfl⟩
  obtain ⟨n16, hn16⟩ : ∃ x, x = 16 * n := ⟨_, rfl⟩
  rw [← hp16, ← hn16] at HPT ⊢
  obtain ⟨d, hd⟩ : ∃ d, d = n16 - p16 := ⟨_, rfl⟩
  rw [← hd] at HPT ⊢
  obtain ⟨e1, he1⟩ : ∃ e1, e1 = e + 1 := ⟨_, rfl⟩
  rw [← he1] at HLN
  have q0 : IntKind.u64.wrap (n : Int) = (n : Int) := by rw [IntKind.wrap_u64]; omega
  have q1 : IntKind.i64.wrap (16 * (p : Int)) = (p16 : Int) := by rw [IntKind.wrap_i64]; omega
  have q2 : IntKind.i64.wrap (16 * (n : Int)) = (n16 : Int) := by rw [IntKind.wrap_i64]; omega
  have q3 : IntKind.i64.wrap ((n16 : Int) - (p16 : Int)) = (d : Int) := by rw [IntKind.wrap_i64]; omega
  have q4 : IntKind.i64.wrap ((e1 : Int) - 1) = (e : Int) := by rw [IntKind.wrap_i64]; omega
  obtain ⟨bs, hbs⟩ : ∃ bs, bs = (putA [65536, (n : Int), (p16 : Int), (e : Int), (d : Int)] ⟨#[73, 72, 72, 72, 72]⟩) := ⟨_, rfl⟩
  rw [← hbs]
  simp only [← hbs] at HPT
  have HPT := Lib.hid HPT
  have HPE := Lib.hid hp
  have hsh : IntKind.i64.wrap ((2 : Int) ^ min e 64) = (p : Int) := by
    rw [Nat.min_eq_left (by omega), IntKind.wrap_i64]
    rcases (show e = 0 ∨ e = 1 ∨ e = 2 ∨ e = 3 ∨ e = 4 ∨ e = 5 ∨ e = 6 by omega) with h | h | h | h | h | h | h <;> (subst h; subst hp; rfl)
  clear hbs hd hp16 hn16 hp he hpn h1 h2 he6 he1
  go_enter Try.func51, Try.ntmps51
  go_wp2_with fail
  refine (HLN.out _).mono ?_
  rintro e w1 ⟨rfl, rfl⟩
  go_wp2_with fail
  refine (HPT.out _ _ (num_new .i64 w [65536, (n : Int), (p16 : Int), _, (d : Int)] _ (by simp))).mono ?_
  rintro e w2 ⟨hb2, r, B, rfl, hBB, how⟩
  have hb3 := ((Below.refl _ w).alloc (Nat.le_refl _) _).trans (hb2.mono (Nat.le_of_lt (heap_more _ _)))
  have HB3 := Lib.hid hb3
  have HOW := Lib.hid how
  have HSZ := Lib.hid (Nat.le_trans (Nat.le_of_lt (heap_more w (.cells #[.int .i64 65536, .int .i64 (n : Int), .int .i64 (p16 : Int), .int .i64 (e : Int), .int .i64 (d : Int)] 3))) hBB)
  clear hb2 hb3 how hBB
  go_wp2_with fail
  go_ret
  exact ⟨HB3.out, _, _, rfl, HSZ.out, HOW.out⟩
end Go.Proofs.Ytijmponhkabeiaa

namespace Go.Proofs.Ytijmponhkabeiaa
open Go Go.RowKit

/-- the number of two bytes from a place on -/
def wordAt (l : List Int) (p : Nat) : Int := l.getD p 0 * 256 + l.getD (p + 1) 0

theorem wordAt_b {l : List Int} (hA : AllB l) (p : Nat) : 0 ≤ wordAt l p ∧ wordAt l p ≤ 65535 := by
  have h : ∀ j, 0 ≤ l.getD j 0 ∧ l.getD j 0 ≤ 255 := by
    intro j
    rw [List.getD_eq_getElem?_getD]
    cases hj : l[j]? with
    | none => simp
    | some x => exact hA x (List.mem_of_getElem? hj)
  have h1 := h p
  have h2 := h (p + 1)
  unfold wordAt
  omega

theorem rd_word2 (w : World) (r : Value) (l : List Int) (hr : RdZ w r l) (hA : AllB l) (hl : l.length ≤ 1000000000) (p : Nat) (h : p + 1 < l.length) :
    Calls Try.prog 47 #[r, .int .i64 (p : Int)] w fun e w' => e = .returned (.int .u16 (wordAt l p)) ∧ Below w.heap.size w w' := by
  have e : wordAt l p = l[p]'(by omega) * 256 + l[p + 1] := by
    unfold wordAt
    rw [List.getD_eq_getElem?_getD, List.getD_eq_getElem?_getD, List.getElem?_eq_getElem h, List.getElem?_eq_getElem (by omega)]; rfl
  rw [e]
  exact rd_word w r l hr hA hl p h

set_option maxRecDepth 20000 in
theorem rd_int (w : World) (r : Value) (l : List Int) (hr : RdZ w r l) (hA : AllB l) (hl : l.length ≤ 1000000000) (p : Nat) (h : p + 1 < l.length) :
    Calls Try.prog 44 #[r, .int .i64 (p : Int)] w fun e w' => e = .returned (.int .i16 (IntKind.i16.wrap (wordAt l p))) ∧ Below w.heap.size w w' := by
  have HH := Lib.hid (rd_word2 w r l hr hA hl p h)
  generalize wordAt l p = x at HH ⊢
  clear hr hA hl h
  go_enter Try.func44, Try.ntmps44
  go_wp2_with fail
  refine (HH.out).mono ?_
  rintro e w1 ⟨rfl, hb⟩
  go_wp2_with fail
  go_ret
  exact ⟨rfl, hb⟩

set_option maxRecDepth 20000 in
theorem rd_long (w : World) (r : Value) (l : List Int) (hr : RdZ w r l) (hA : AllB l) (hl : l.length ≤ 1000000000) (p : Nat) (h : p + 3 < l.length) :
    Calls Try.prog 52 #[r, .int .i64 (p : Int)] w fun e w' => e = .returned (.int .u32 (wordAt l p * 65536 + wordAt l (p + 2))) ∧ Below w.heap.size w w' := by
  have HH := Lib.hid (rd_has w r l hr hl p 1 4 (.inr (.inr rfl)) (by omega))
  have H1 := Lib.hid (rd_word2 w r l hr hA hl p (by omega))
  obtain ⟨q, hq⟩ : ∃ q, q = p + 2 := ⟨_, rfl⟩
  have H2 : Hid (∀ w1, Below w.heap.size w w1 → Calls Try.prog 47 #[r, .int .i64 (q : Int)] w1 fun e w' => e = .returned (.int .u16 (wordAt l q)) ∧ Below w1.heap.size w1 w') := Lib.hid (fun w1 hb => rd_word2 w1 r l (hr.below hb) hA hl q (by omega))
  have hx := wordAt_b hA p
  have hy := wordAt_b hA q
  rw [← hq]
  generalize wordAt l p = x at H1 hx ⊢
  generalize wordAt l q = y at H2 hy ⊢
  have q1 : IntKind.i64.wrap ((p : Int) + 2) = (q : Int) := by rw [IntKind.wrap_i64]; omega
  have w1 : IntKind.u32.wrap x = x := by rw [wrap_u32]; omega
  have w2 : IntKind.u32.wrap y = y := by rw [wrap_u32]; omega
  have w3 : IntKind.u32.wrap (x * 65536) = x * 65536 := by rw [wrap_u32]; omega
  have w4 := or_u32 x y hx hy
  clear hr hA hl h hq hx hy
  go_enter Try.func52, Try.ntmps52
  go_wp2_with fail
  refine (HH.out).mono ?_
  rintro e wa ⟨rfl, rfl⟩
  go_wp2_with fail
  refine (H1.out).mono ?_
  rintro e wb ⟨rfl, hb1⟩
  have HB1 := Lib.hid hb1
  clear hb1
  go_wp2_with fail
  refine (H2.out _ HB1.out).mono ?_
  rintro e wd ⟨rfl, hb2⟩
  have HB2 := Lib.hid (HB1.out.trans (hb2.mono HB1.out.size))
  clear hb2
  go_wp2_with fail
  go_ret
  exact ⟨rfl, HB2.out⟩

set_option maxRecDepth 20000 in
theorem clone_any (w : World) (v : Value) (l : List Int) (hv : NumZ .u8 w v l) (hnn : ∀ n c, v = .slice none n c → n = 0 ∧ c = 0) (hl : l.length ≤ 1000000000) :
    Calls Try.prog 39 #[v] w fun e w' => Below w.heap.size w w' ∧ ∃ r, e = .returned r ∧ OwnB w.heap.size w' r l := by
  have HV := Lib.hid hv
  have HN := Lib.hid hnn
  have HL := Lib.hid hl
  obtain ⟨A, cap, rfl, h1, h2, h3⟩ := hv
  obtain ⟨N, hN⟩ : ∃ N, N = l.length := ⟨_, rfl⟩
  have HNN := Lib.hid hN
  rw [← hN] at HV HN ⊢
  clear h1 h2 h3 hnn hl hN
  have hnil : ∀ W, (binOp BinOp.eql 22 (.slice A N cap) (.slice none 0 0)).run Try.prog W = .ok (.bool A.isNone) W := fun W => Lib.run_eql_slice_nil W _ _ _ _ _ _ _ Try.underlying22
  cases A with
  | none =>
    have h0 := HN.out _ _ rfl
    have he : l = [] := List.length_eq_zero_iff.1 (by rw [← HNN.out]; exact h0.1)
    obtain ⟨h0, h1⟩ := h0
    subst h0; subst h1
    have HO : Hid (OwnB w.heap.size w (.slice none 0 0) l) := Lib.hid (by rw [he]; exact OwnB.nil _ _)
    clear he
    go_enter Try.func39, Try.ntmps39
    go_wp2_with fail
    go_ret
    exact ⟨Below.refl _ _, _, rfl, HO.out⟩
  | some ad =>
    go_enter Try.func39, Try.ntmps39
    go_wp2_with (at_builtin; refine wp_append_b rfl _ _ rfl w.heap.size _ [] rfl (own_new _ w [] (by simp) (Nat.le_refl _)) _ l rfl (HV.out.alloc _) (fun n c h => by cases h) (by have := HL.out; simp; omega) (Nat.le_of_lt (heap_more _ _)) ?_)
    intro v' w' how hk
    have HB := Lib.hid (hk _ ((Below.refl _ w).alloc (Nat.le_refl _) _))
    have HO := Lib.hid how
    clear how hk
    go_wp2_with fail
    go_ret
    exact ⟨HB.out, _, rfl, HO.out⟩

set_option maxRecDepth 20000 in
theorem open_any (w : World) (v : Value) (l : List Int) (hv : NumZ .u8 w v l) (hnn : ∀ n c, v = .slice none n c → n = 0 ∧ c = 0) (hl : l.length ≤ 1000000000) :
    Calls Try.prog 16 #[v] w fun e w' => Below w.heap.size w w' ∧ ∃ r, e = .returned r ∧ RdZ w' r l := by
  have HC := Lib.hid (clone_any (w.alloc (.cells #[.bool false] 74)) v l (hv.alloc _) hnn hl)
  have HB0 := Lib.hid ((Below.refl _ w).alloc (Nat.le_refl _) (.cells #[.bool false] 74))
  clear hv hnn hl
  go_enter Try.func16, Try.ntmps16
  go_wp2_with fail
  refine (HC.out).mono ?_
  rintro e w1 ⟨hb, v, rfl, how⟩
  obtain ⟨⟨A, c, hvv⟩, _⟩ := ownB_cases how
  have hnn := how.nn
  have hz := how.read
  rw [hvv] at hz hnn ⊢
  obtain ⟨N, hN⟩ : ∃ N, N = l.length := ⟨_, rfl⟩
  rw [← hN] at hz hnn ⊢
  have hcell : w1.cell? ⟨w.heap.size, 0, none⟩ = some (.bool false) := cellsAt_below (by
    rw [cell_of_row _ w.heap.size 0 _ _ _ (heap_alloc_new w _)]; rfl) hb
  have hlt : w.heap.size < w1.heap.size := by have := hb.size; rw [heap_plus] at this; omega
  have hb1 : Below w.heap.size w w1 := HB0.out.trans (hb.mono (Nat.le_of_lt (heap_more _ _)))
  obtain ⟨gs, hgs⟩ : ∃ gs, gs = w.heap.size := ⟨_, rfl⟩
  have HF : Hid (∀ (w2 : World), w2 = w1.alloc (.cells #[.pointer (some ⟨w.heap.size, 0, none⟩), .slice A N c] 77) → Below w.heap.size w w2 ∧ RdZ w2 (.pointer (some ⟨w1.heap.size, 0, none⟩)) l) := Lib.hid (by
    rintro w2 rfl
    refine ⟨hb1.alloc hb1.size _, w1.heap.size, w.heap.size, A, c, rfl, heap_more _ _, Nat.lt_trans hlt (heap_more _ _), ?_, ?_, cells_alloc _ hcell, ?_, fun h => ?_⟩
    · rw [cell_of_row _ w1.heap.size 0 _ _ _ (heap_alloc_new w1 _)]; rfl
    · rw [cell_of_row _ w1.heap.size 1 _ _ _ (heap_alloc_new w1 _), ← hN]; rfl
    · rw [← hN]; exact hz.alloc _
    · subst h; exact (hnn _ _ rfl).2)
  clear how hnn hz hvv hN hcell hlt hb1 hgs hb
  go_wp2_with fail
  go_ret
  have := HF.out _ rfl
  exact ⟨this.1, _, rfl, this.2⟩
end Go.Proofs.Ytijmponhkabeiaa

namespace Go.Proofs.Ytijmponhkabeiaa
open Go Go.RowKit

/-- what the panic is with -/
def faultV (n : Int) : Value := .iface 83 (.agg #[.int .i64 n])

/-- given up with that error -/
def gone (n : Int) : Ending := .panicked [{ v := .iface 83 (.agg #[.int .i64 n]), recovered := false }]

set_option maxRecDepth 20000 in
theorem require_ok (w : World) (n : Int) : Calls Try.prog 58 #[.bool true, .int .i64 n] w fun e w' => e = .returned (.tuple #[]) ∧ w = w' := by
  go_enter Try.func58, Try.ntmps58
  go_wp2_with fail
  go_returns
  exact ⟨rfl, rfl⟩

set_option maxRecDepth 20000 in
theorem require_bad (w : World) (n : Int) : Calls Try.prog 58 #[.bool false, .int .i64 n] w fun e w' => e = gone n ∧ w = w' := by
  go_enter Try.func58, Try.ntmps58
  go_wp2_with fail
  exact ⟨rfl, rfl, rfl⟩

set_option maxRecDepth 20000 in
theorem reqFont_ok (w : World) : Calls Try.prog 46 #[.bool true] w fun e w' => e = .returned (.tuple #[]) ∧ w = w' := by
  have H := Lib.hid (require_ok w 50)
  go_enter Try.func46, Try.ntmps46
  go_wp2_with fail
  refine (H.out).mono ?_
  rintro e w' ⟨rfl, rfl⟩
  go_wp2_with fail
  go_returns
  exact ⟨rfl, rfl⟩

set_option maxRecDepth 20000 in
theorem reqFont_bad (w : World) : Calls Try.prog 46 #[.bool false] w fun e w' => e = gone 50 ∧ w = w' := by
  have H := Lib.hid (require_bad w 50)
  go_enter Try.func46, Try.ntmps46
  go_wp2_with fail
  refine (H.out).mono ?_
  rintro e w' ⟨rfl, rfl⟩
  exact ⟨rfl, rfl, rfl⟩

set_option maxRecDepth 20000 in
theorem outcome_nil (w : World) : Calls Try.prog 23 #[.nilIface] w fun e w' => e = .returned (.int .i64 0) ∧ w = w' := by
  go_enter Try.func23, Try.ntmps23
  go_wp2_with fail
  go_returns
  exact ⟨rfl, rfl⟩

set_option maxRecDepth 20000 in
theorem outcome_fault (w : World) (n : Int) : Calls Try.prog 23 #[.iface 83 (.agg #[.int .i64 n])] w fun e w' => e = .returned (.int .i64 n) ∧ w = w' := by
  have hta : ∀ T W, (Instr.typeAssert (.iface 83 (.agg #[.int .i64 n])) T 83 false).run Try.prog W = .ok (.agg #[.int .i64 n]) W := fun T W => by simp [Instr.typeAssert]
  have hfl : ∀ W, (Instr.field 83 (.agg #[.int .i64 n]) 0).run Try.prog W = .ok (.int .i64 n) W := fun W => by simp [Instr.field, go_sem]; rfl
  go_enter Try.func23, Try.ntmps23
  go_wp2_with fail
  go_returns
  exact ⟨rfl, rfl⟩

theorem catchTables (p : Addr) (x n : Int) (older : List PanicEntry) (w : World) (hc : w.cell? p = some (.int .i64 x)) (hz : w.frozen? p = false) :
    CallsD Try.prog 22 #[.pointer (some p)] (.panicking ({ v := .iface 83 (.agg #[.int .i64 n]), recovered := false } :: older)) w fun e u' w' =>
      e = .returned (.tuple #[]) ∧ u' = .panicking ({ v := .iface 83 (.agg #[.int .i64 n]), recovered := true } :: older) ∧ w' = w.setCell p (.int .i64 n) := by
  refine callsD_of_wpS Try.func22 rfl fun c₀ cs hu => ?_
  apply wpS_region
  simp [wpOpsS, go_sem, recoverD, hu, Try.ntmps22]
  refine (outcome_fault w n).mono ?_
  rintro e w' ⟨rfl, rfl⟩
  simp [go_sem, hc, hz, bodyPostS, results, Try.results22]

theorem idleTables (p : Addr) (x : Int) (w : World) (hc : w.cell? p = some (.int .i64 x)) (hz : w.frozen? p = false) :
    CallsD Try.prog 22 #[.pointer (some p)] .returning w fun e u' w' => e = .returned (.tuple #[]) ∧ u' = .returning ∧ w' = w.setCell p (.int .i64 0) := by
  refine callsD_of_wpS Try.func22 rfl fun c₀ cs hu => ?_
  apply wpS_region
  simp [wpOpsS, go_sem, recoverD, hu, Try.ntmps22]
  refine (outcome_nil w).mono ?_
  rintro e w' ⟨rfl, rfl⟩
  cases c₀
  simp_all [go_sem, bodyPostS, results, Try.results22]

theorem catchJoin (p : Addr) (x n : Int) (older : List PanicEntry) (w : World) (hc : w.cell? p = some (.int .i64 x)) (hz : w.frozen? p = false) :
    CallsD Try.prog 31 #[.pointer (some p)] (.panicking ({ v := .iface 83 (.agg #[.int .i64 n]), recovered := false } :: older)) w fun e u' w' =>
      e = .returned (.tuple #[]) ∧ u' = .panicking ({ v := .iface 83 (.agg #[.int .i64 n]), recovered := true } :: older) ∧ w' = w.setCell p (.int .i64 n) := by
  refine callsD_of_wpS Try.func31 rfl fun c₀ cs hu => ?_
  apply wpS_region
  simp [wpOpsS, go_sem, recoverD, hu, Try.ntmps31]
  refine (outcome_fault w n).mono ?_
  rintro e w' ⟨rfl, rfl⟩
  simp [go_sem, hc, hz, bodyPostS, results, Try.results31]

theorem idleJoin (p : Addr) (x : Int) (w : World) (hc : w.cell? p = some (.int .i64 x)) (hz : w.frozen? p = false) :
    CallsD Try.prog 31 #[.pointer (some p)] .returning w fun e u' w' => e = .returned (.tuple #[]) ∧ u' = .returning ∧ w' = w.setCell p (.int .i64 0) := by
  refine callsD_of_wpS Try.func31 rfl fun c₀ cs hu => ?_
  apply wpS_region
  simp [wpOpsS, go_sem, recoverD, hu, Try.ntmps31]
  refine (outcome_nil w).mono ?_
  rintro e w' ⟨rfl, rfl⟩
  cases c₀
  simp_all [go_sem, bodyPostS, results, Try.results31]

theorem catchHead (p : Addr) (x n : Int) (older : List PanicEntry) (w : World) (hc : w.cell? p = some (.int .i64 x)) (hz : w.frozen? p = false) :
    CallsD Try.prog 37 #[.pointer (some p)] (.panicking ({ v := .iface 83 (.agg #[.int .i64 n]), recovered := false } :: older)) w fun e u' w' =>
      e = .returned (.tuple #[]) ∧ u' = .panicking ({ v := .iface 83 (.agg #[.int .i64 n]), recovered := true } :: older) ∧ w' = w.setCell p (.int .i64 n) := by
  refine callsD_of_wpS Try.func37 rfl fun c₀ cs hu => ?_
  apply wpS_region
  simp [wpOpsS, go_sem, recoverD, hu, Try.ntmps37]
  refine (outcome_fault w n).mono ?_
  rintro e w' ⟨rfl, rfl⟩
  simp [go_sem, hc, hz, bodyPostS, results, Try.results37]

theorem idleHead (p : Addr) (x : Int) (w : World) (hc : w.cell? p = some (.int .i64 x)) (hz : w.frozen? p = false) :
    CallsD Try.prog 37 #[.pointer (some p)] .returning w fun e u' w' => e = .returned (.tuple #[]) ∧ u' = .returning ∧ w' = w.setCell p (.int .i64 0) := by
  refine callsD_of_wpS Try.func37 rfl fun c₀ cs hu => ?_
  apply wpS_region
  simp [wpOpsS, go_sem, recoverD, hu, Try.ntmps37]
  refine (outcome_nil w).mono ?_
  rintro e w' ⟨rfl, rfl⟩
  cases c₀
  simp_all [go_sem, bodyPostS, results, Try.results37]

theorem catchWidths (p : Addr) (x n : Int) (older : List PanicEntry) (w : World) (hc : w.cell? p = some (.int .i64 x)) (hz : w.frozen? p = false) :
    CallsD Try.prog 40 #[.pointer (some p)] (.panicking ({ v := .iface 83 (.agg #[.int .i64 n]), recovered := false } :: older)) w fun e u' w' =>
      e = .returned (.tuple #[]) ∧ u' = .panicking ({ v := .iface 83 (.agg #[.int .i64 n]), recovered := true } :: older) ∧ w' = w.setCell p (.int .i64 n) := by
  refine callsD_of_wpS Try.func40 rfl fun c₀ cs hu => ?_
  apply wpS_region
  simp [wpOpsS, go_sem, recoverD, hu, Try.ntmps40]
  refine (outcome_fault w n).mono ?_
  rintro e w' ⟨rfl, rfl⟩
  simp [go_sem, hc, hz, bodyPostS, results, Try.results40]

theorem idleWidths (p : Addr) (x : Int) (w : World) (hc : w.cell? p = some (.int .i64 x)) (hz : w.frozen? p = false) :
    CallsD Try.prog 40 #[.pointer (some p)] .returning w fun e u' w' => e = .returned (.tuple #[]) ∧ u' = .returning ∧ w' = w.setCell p (.int .i64 0) := by
  refine callsD_of_wpS Try.func40 rfl fun c₀ cs hu => ?_
  apply wpS_region
  simp [wpOpsS, go_sem, recoverD, hu, Try.ntmps40]
  refine (outcome_nil w).mono ?_
  rintro e w' ⟨rfl, rfl⟩
  cases c₀
  simp_all [go_sem, bodyPostS, results, Try.results40]

/-- the face's own variable: the error's number -/
theorem face_var {w w1 : World} {T : TypeId} (hb : Below (w.alloc (.cells #[.int .i64 0] T)).heap.size (w.alloc (.cells #[.int .i64 0] T)) w1) :
    w1.cell? ⟨w.heap.size, 0, none⟩ = some (.int .i64 0) ∧ w1.frozen? ⟨w.heap.size, 0, none⟩ = false ∧ Below w.heap.size w w1 := by
  have hs : w.heap.size < (w.alloc (.cells #[.int .i64 0] T)).heap.size := heap_more _ _
  refine ⟨?_, ?_, (below_alloc _ (Below.refl _ w)).trans (hb.mono (Nat.le_of_lt hs))⟩
  · refine cellsAt_below ?_ hb
    rw [cell_of_row _ w.heap.size 0 _ _ _ (heap_alloc_new w _)]; rfl
  · rw [hb.frozen (by exact hs)]
    exact World.frozen?_alloc_at _ _ _ _ rfl

end Go.Proofs.Ytijmponhkabeiaa
