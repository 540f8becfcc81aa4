/-
  The document's Put: the walk.
-/
import Derived.Test.YtlpnikolnohcaaaRefPut
namespace Go.Proofs.Ytlpnikolnohcaaa
open Go Go.RowKit

/-- at the head of the round of the number with this index: what is put so far, and what is left -/
def RPRel (w : World) (l : List Int) (P : List Nat) (k : Nat) (vo vi : Value) (wr : World) : Prop := ∃ (v : Value) (i : Nat) (bs : List Int), v = vo ∧ i + k = l.length ∧ vi = .int .i64 (i : Int) ∧ OwnB w.heap.size wr v bs ∧ Below w.heap.size w wr ∧ bs.length ≤ 4 * i ∧ putR l P = (putR (l.drop i) (P.drop i)).map (bs ++ ·)

/-- at the head of the round of the byte with this place -/
def RBRel (w : World) (bs : List Int) (c : Nat) (n : Int) (k : Nat) (vo vi : Value) (wr : World) : Prop := ∃ (v : Value) (pre : List Int), v = vo ∧ vi = .int .i64 ((k : Int) - 1) ∧ OwnB w.heap.size wr v (bs ++ pre) ∧ Below w.heap.size w wr ∧ pre ++ lowB k n = lowB (sizeC c) n

theorem putR_next {l : List Int} {P : List Nat} {i : Nat} (hi : i < l.length) (hP : l.length = P.length) (bs : List Int) (h : putR l P = (putR (l.drop i) (P.drop i)).map (bs ++ ·)) :
    (fitsC (P.getD i 0) l[i] = false → putR l P = none) ∧ (fitsC (P.getD i 0) l[i] = true → putR l P = (putR (l.drop (i + 1)) (P.drop (i + 1))).map (bs ++ lowB (sizeC (P.getD i 0)) l[i] ++ ·)) := by
  have hiP : i < P.length := by omega
  have e : P.getD i 0 = P[i] := by simp [hiP]
  rw [List.drop_eq_getElem_cons hi, List.drop_eq_getElem_cons hiP] at h
  rw [e]
  constructor
  · intro hf
    rw [h, putR, hf]; rfl
  · intro hf
    rw [h, putR, hf, if_pos rfl]
    cases putR (l.drop (i + 1)) (P.drop (i + 1)) <;> simp

theorem sizeC_le (c : Nat) : sizeC c ≤ 4 := by unfold sizeC; repeat (first | omega | split)

theorem plan_b (s : ByteArray) (i : Nat) : (plan s).getD i 0 < 256 := by
  rw [List.getD_eq_getElem?_getD]
  cases h : (plan s)[i]? with
  | none => simp
  | some x =>
    have hm := List.mem_of_getElem? h
    simp only [plan, List.mem_map] at hm
    obtain ⟨u, _, rfl⟩ := hm
    exact u.toNat_lt

set_option maxHeartbeats 20000000 in
set_option maxRecDepth 20000 in
theorem refPut_any : PutC 34 := by
  intro w v l s hv hl hs
  have HV := Lib.hid hv
  obtain ⟨A, c, rfl, _, _, _⟩ := hv
  rename_i g1 g2 g3
  obtain ⟨N, hN⟩ : ∃ N, N = l.length := ⟨_, rfl⟩
  have HN := Lib.hid hN
  rw [← hN] at HV ⊢
  have b1 : (16777216 < (N : Int)) = False := eq_false (by omega)
  by_cases hlen : l.length = s.size
  · have HA : Hid ((∀ b, putR l (plan s) = some b → putA l s = (0, b)) ∧ (putR l (plan s) = none → putA l s = (2, []))) := Lib.hid ⟨fun b hb => by unfold putA; rw [if_pos hlen, hb], fun hb => by unfold putA; rw [if_pos hlen, hb]⟩
    have hNs : N = s.size := by omega
    have b2 : ((N : Int) != (s.size : Int)) = false := by rw [hNs]; simp
    have HLP : Hid (l.length = (plan s).length) := Lib.hid (by rw [plan_len]; exact hlen)
    have HNS := Lib.hid hNs
    have HL6 := Lib.hid hl
    have HS0 : Hid (putR l (plan s) = (putR (l.drop 0) ((plan s).drop 0)).map ([] ++ ·)) := Lib.hid (by simp)
    obtain ⟨q, hq⟩ : ∃ q, q = putA l s := ⟨_, rfl⟩
    rw [← hq] at HA ⊢
    clear g1 g2 g3 hN hl hs hlen hNs hq
    go_enter Try.func34, Try.ntmps34
    go_wp2_with fail
    go_loopg [6, 7] N (fun k vo vi wr => RPRel w l (plan s) k vo vi wr)
    case atStart => exact ⟨_, 0, [], rfl, by have := HN.out; omega, rfl, OwnB.nil _ _, Below.refl _ _, Nat.zero_le _, HS0.out⟩
    case round =>
      obtain ⟨vo, i, bs, rfl, hik, rfl, how, hb, hbl, hput⟩ := hrel
      have HOW := Lib.hid how
      have HBW := Lib.hid hb
      have HIK := Lib.hid hik
      have HBL := Lib.hid hbl
      obtain ⟨kk, hkk⟩ : ∃ kk, kk = gk := ⟨_, rfl⟩
      have HKK := Lib.hid hkk
      clear how hkk
      by_cases hi : i = N
      · have bi : ((i : Int) < (N : Int)) = False := eq_false (by omega)
        have HRES : Hid (q = (0, bs)) := Lib.hid (by
          exact HA.out.1 bs (by rw [hput, hi, HN.out, List.drop_length]; simp [putR]))
        clear hi hik hbl hput hb
        go_wp2_with fail
        go_ret2
        refine ⟨HBW.out, vo, ?_, ?_⟩
        · rw [HRES.out]; rfl
        · rw [HRES.out]; exact HOW.out
      · have hil : i < l.length := by have := HN.out; omega
        obtain ⟨hno, hyes⟩ := putR_next hil HLP.out bs hput
        have hidx := fun W => idx_s W s i (by have := HNS.out; have := HN.out; omega)
        obtain ⟨g, off, rfl, _, hc⟩ := (HV.out.below hb).cells (by rintro rfl; simp at hil)
        have cn := hc i hil
        obtain ⟨n, hn⟩ : ∃ n, n = l[i] := ⟨_, rfl⟩
        rw [← hn] at cn hno hyes
        have hcb := plan_b s i
        obtain ⟨ch, hch⟩ : ∃ ch, ch = (plan s).getD i 0 := ⟨_, rfl⟩
        rw [← hch] at hno hyes hcb
        simp only [← hch] at hidx
        obtain ⟨i1, hi1⟩ : ∃ i1, i1 = i + 1 := ⟨_, rfl⟩
        have q1 : IntKind.i64.wrap ((i : Int) + 1) = (i1 : Int) := by rw [IntKind.wrap_i64]; have := HL6.out; omega
        have bi : ((i : Int) < (N : Int)) = True := eq_true (by have := HN.out; omega)
        have i0 : (0 : Int) ≤ (i : Int) := Int.natCast_nonneg _
        have iN : (i : Int) < (N : Int) := by have := HN.out; omega
        have iS : (i : Int) < (s.size : Int) := by have := HNS.out; omega
        obtain ⟨ft, hft⟩ : ∃ ft, ft = fitsC ch n := ⟨_, rfl⟩
        rw [← hft] at hno hyes
        have HF : Hid (∀ wx, Calls Try.prog 64 #[.int .u8 (ch : Int), .int .i64 n] wx fun e w' => e = .returned (.bool ft) ∧ wx = w') := Lib.hid (fun wx => by rw [hft]; exact refFits_any wx ch n)
        have HSZ : Hid (∀ wx, Calls Try.prog 65 #[.int .u8 (ch : Int)] wx fun e w' => e = .returned (.int .i64 ((sizeC ch : Nat) : Int)) ∧ wx = w') := Lib.hid (fun wx => refSize_any wx ch hcb)
        have HI1 := Lib.hid hi1
        have HIN := Lib.hid hi
        have HNO := Lib.hid hno
        have HYES := Lib.hid hyes
        clear hik hi hno hyes hn hch hi1 hft hc hput hb hbl hcb hil
        go_upto_region 9 with fail
        go_cut [32] from 18 to 54 (fun sr wx => sr = .bool (!ft) ∧ Below wr.heap.size wr wx)
        case first =>
          go_region_held3 (fun w' => w'.cell? ⟨g, off + i, none⟩ = some (.int .i64 n) ∧ Below wr.heap.size wr w')
            (first | assumption | (go_split_ands; exact ⟨cn, (Below.refl _ wr).drew⟩) | (go_split_ands; exact ⟨by assumption, by assumption⟩))
            (first
              | (go_at_call 64; go_split_ands; refine (HF.out _).mono ?_; rintro e wx ⟨rfl, rfl⟩))
          all_goals (go_wp2_with fail; go_meet; go_split_ands; exact ⟨rfl, by assumption⟩)
        case rest =>
          obtain ⟨rfl, hb5⟩ := hcut
          have HB5 := Lib.hid (HBW.out.trans (hb5.mono HBW.out.size))
          have HO5 := Lib.hid (ownB_stays HOW.out hb5)
          have cn5 := cellsAt_below cn hb5
          clear hb5 cn
          cases ft with
          | false =>
            have HRES : Hid (q = (2, [])) := Lib.hid (HA.out.2 (HNO.out rfl))
            clear hidx
            go_wp2_with fail
            go_ret2
            refine ⟨HB5.out, .slice none 0 0, ?_, ?_⟩
            · rw [HRES.out]; rfl
            · rw [HRES.out]; exact OwnB.nil _ _
          | true =>
            obtain ⟨sz, hsz⟩ : ∃ sz, sz = sizeC ch := ⟨_, rfl⟩
            have hsz4 := sizeC_le ch
            rw [← hsz] at HSZ hsz4
            have HSE := Lib.hid hsz
            obtain ⟨u, hu⟩ : ∃ u, u = IntKind.u32.wrap n := ⟨_, rfl⟩
            have hu2 : IntKind.u32.wrap n = u := hu.symm
            have HU : Hid (u = n % 4294967296) := Lib.hid (by rw [hu, wrap_u32])
            have q5 : IntKind.i64.wrap ((sz : Int) - 1) = (sz : Int) - 1 := by rw [IntKind.wrap_i64]; omega
            clear hsz hu
            go_wp2_with fail
            refine (HSZ.out _).mono ?_
            rintro e w6 ⟨rfl, rfl⟩
            go_wp2_with fail
            go_loopg [6, 9] sz (fun k vo vi wr => RBRel w bs ch n k vo vi wr)
            case atStart => exact ⟨_, [], rfl, rfl, by rw [List.append_nil]; exact HO5.out, HB5.out, by rw [List.nil_append, HSE.out]⟩
            case round =>
              obtain ⟨vb, pre, rfl, rfl, howb, hbb, hpre⟩ := hrel
              have HOB := Lib.hid howb
              have HBB := Lib.hid hbb
              have HPRE := Lib.hid hpre
              clear howb hbb hpre
              rcases Nat.eq_zero_or_pos gk with h0 | h0
              · subst h0
                have HNEW : Hid (RPRel w l (plan s) (kk - 1) vb (.int .i64 (i1 : Int)) wr) := Lib.hid ⟨vb, i1, bs ++ pre, rfl, by have := HIK.out; have := HKK.out; have := HIN.out; have := HN.out; have := HI1.out; omega, rfl, HOB.out, HBB.out, by
                    have h1 := HPRE.out
                    have h2 := congrArg List.length h1
                    have h3 := HBL.out
                    have h4 := HSE.out
                    have h5 := HI1.out
                    simp [lowB_len, lowB] at h2
                    simp; omega, by
                    have h1 := HPRE.out
                    rw [lowB, List.append_nil] at h1
                    rw [h1, HI1.out]
                    exact HYES.out (by first | rfl | trivial)⟩
                go_wp2_with fail
                go_roundg (kk - 1)
                case measure => have := HIK.out; have := HKK.out; have := HIN.out; have := HN.out; omega
                case rel => exact HNEW.out
              · have hjs : gk ≤ 4 := by
                  have h2 := congrArg List.length HPRE.out
                  have h4 := HSE.out
                  simp [lowB_len] at h2
                  omega
                have HLL : Hid ((bs ++ pre).length ≤ 4000010) := Lib.hid (by
                  have h2 := congrArg List.length HPRE.out
                  have h3 := HBL.out
                  have h4 := HSE.out
                  have h5 := HL6.out
                  have h6 := HIK.out
                  simp [lowB_len] at h2
                  simp; omega)
                rcases (show gk = 1 ∨ gk = 2 ∨ gk = 3 ∨ gk = 4 by omega) with hj | hj | hj | hj
                · have hg1 : ((gk : Int) - 1) = 0 := by omega
                  rw [hg1]
                  have HJ := Lib.hid hj
                  clear hj hjs h0 hg1
                  go_wp2_with (at_builtin; refine wp_append_b rfl _ _ rfl w.heap.size vb (bs ++ pre) rfl (ownB_stays HOB.out ((Below.refl _ _).alloc (Nat.le_refl _) _)) _ [u % 256] rfl (num_new .u8 wr [u % 256] _ (by simp)) (fun n c h => by cases h) (by have := HLL.out; simp only [List.length_cons, List.length_nil]; omega) (Nat.le_trans HBB.out.size (Nat.le_of_lt (heap_more _ _))) ?_)
                  intro v7 w7 how7 hk7
                  have HNB : Hid (RBRel w bs ch n (gk - 1) v7 (.int .i64 (0 - 1)) w7) := Lib.hid ⟨v7, pre ++ [u % 256], rfl, by rw [HJ.out]; rfl, by simpa using how7, hk7 _ (HBB.out.alloc HBB.out.size _), by
                      have h1 := HPRE.out
                      have h2 := HU.out
                      rw [HJ.out] at h1 ⊢
                      have e : u % 256 = n / 256 ^ 0 % 256 := by omega
                      rw [e, List.append_assoc]
                      exact h1⟩
                  clear how7 hk7
                  go_wp2_with fail
                  go_roundg (gk - 1)
                  case measure => have := HJ.out; omega
                  case rel => exact HNB.out
                · have hg2 : ((gk : Int) - 1) = 1 := by omega
                  rw [hg2]
                  have HJ := Lib.hid hj
                  clear hj hjs h0 hg2
                  go_wp2_with (at_builtin; refine wp_append_b rfl _ _ rfl w.heap.size vb (bs ++ pre) rfl (ownB_stays HOB.out ((Below.refl _ _).alloc (Nat.le_refl _) _)) _ [u / 256 % 256] rfl (num_new .u8 wr [u / 256 % 256] _ (by simp)) (fun n c h => by cases h) (by have := HLL.out; simp only [List.length_cons, List.length_nil]; omega) (Nat.le_trans HBB.out.size (Nat.le_of_lt (heap_more _ _))) ?_)
                  intro v7 w7 how7 hk7
                  have HNB : Hid (RBRel w bs ch n (gk - 1) v7 (.int .i64 (1 - 1)) w7) := Lib.hid ⟨v7, pre ++ [u / 256 % 256], rfl, by rw [HJ.out]; rfl, by simpa using how7, hk7 _ (HBB.out.alloc HBB.out.size _), by
                      have h1 := HPRE.out
                      have h2 := HU.out
                      rw [HJ.out] at h1 ⊢
                      have e : u / 256 % 256 = n / 256 ^ 1 % 256 := by omega
                      rw [e, List.append_assoc]
                      exact h1⟩
                  clear how7 hk7
                  go_wp2_with fail
                  go_roundg (gk - 1)
                  case measure => have := HJ.out; omega
                  case rel => exact HNB.out
                · have hg3 : ((gk : Int) - 1) = 2 := by omega
                  rw [hg3]
                  have HJ := Lib.hid hj
                  clear hj hjs h0 hg3
                  go_wp2_with (at_builtin; refine wp_append_b rfl _ _ rfl w.heap.size vb (bs ++ pre) rfl (ownB_stays HOB.out ((Below.refl _ _).alloc (Nat.le_refl _) _)) _ [u / 65536 % 256] rfl (num_new .u8 wr [u / 65536 % 256] _ (by simp)) (fun n c h => by cases h) (by have := HLL.out; simp only [List.length_cons, List.length_nil]; omega) (Nat.le_trans HBB.out.size (Nat.le_of_lt (heap_more _ _))) ?_)
                  intro v7 w7 how7 hk7
                  have HNB : Hid (RBRel w bs ch n (gk - 1) v7 (.int .i64 (2 - 1)) w7) := Lib.hid ⟨v7, pre ++ [u / 65536 % 256], rfl, by rw [HJ.out]; rfl, by simpa using how7, hk7 _ (HBB.out.alloc HBB.out.size _), by
                      have h1 := HPRE.out
                      have h2 := HU.out
                      rw [HJ.out] at h1 ⊢
                      have e : u / 65536 % 256 = n / 256 ^ 2 % 256 := by omega
                      rw [e, List.append_assoc]
                      exact h1⟩
                  clear how7 hk7
                  go_wp2_with fail
                  go_roundg (gk - 1)
                  case measure => have := HJ.out; omega
                  case rel => exact HNB.out
                · have hg4 : ((gk : Int) - 1) = 3 := by omega
                  rw [hg4]
                  have HJ := Lib.hid hj
                  clear hj hjs h0 hg4
                  go_wp2_with (at_builtin; refine wp_append_b rfl _ _ rfl w.heap.size vb (bs ++ pre) rfl (ownB_stays HOB.out ((Below.refl _ _).alloc (Nat.le_refl _) _)) _ [u / 16777216 % 256] rfl (num_new .u8 wr [u / 16777216 % 256] _ (by simp)) (fun n c h => by cases h) (by have := HLL.out; simp only [List.length_cons, List.length_nil]; omega) (Nat.le_trans HBB.out.size (Nat.le_of_lt (heap_more _ _))) ?_)
                  intro v7 w7 how7 hk7
                  have HNB : Hid (RBRel w bs ch n (gk - 1) v7 (.int .i64 (3 - 1)) w7) := Lib.hid ⟨v7, pre ++ [u / 16777216 % 256], rfl, by rw [HJ.out]; rfl, by simpa using how7, hk7 _ (HBB.out.alloc HBB.out.size _), by
                      have h1 := HPRE.out
                      have h2 := HU.out
                      rw [HJ.out] at h1 ⊢
                      have e : u / 16777216 % 256 = n / 256 ^ 3 % 256 := by omega
                      rw [e, List.append_assoc]
                      exact h1⟩
                  clear how7 hk7
                  go_wp2_with fail
                  go_roundg (gk - 1)
                  case measure => have := HJ.out; omega
                  case rel => exact HNB.out
  · have HA : Hid (putA l s = (2, [])) := Lib.hid (by unfold putA; rw [if_neg hlen])
    have b2 : ((N : Int) != (s.size : Int)) = true := by simp; omega
    clear g1 g2 g3 hN hl hs hlen
    go_enter Try.func34, Try.ntmps34
    go_wp2_with fail
    go_ret2
    refine ⟨Below.refl _ _, .slice none 0 0, ?_, ?_⟩
    · rw [HA.out]; rfl
    · rw [HA.out]; exact OwnB.nil _ _
end Go.Proofs.Ytlpnikolnohcaaa
