/-
  How a number is put: bin's kinds, and how one puts a number behind bytes.
-/
import Derived.Test.YtlpnikolnohcaaaPutL
import Derived.Test.YtlpnikolnohcaaaRd
import Derived.Handy
namespace Go.Proofs.Ytlpnikolnohcaaa
open Go Go.RowKit

/-- a kind, as a value -/
def kindV (lo hi : Int) (sz : Nat) : Value := .agg #[.int .i64 lo, .int .i64 hi, .int .i64 (sz : Int)]

set_option maxRecDepth 20000 in
theorem kindOf_98 (w : World) : Calls Try.prog 78 #[.int .u8 98] w fun e w' => Below w.heap.size w w' ∧ e = .returned (.agg #[.int .i64 (0), .int .i64 255, .int .i64 1]) := by
  go_enter Try.func78, Try.ntmps78
  go_wp2_with fail
  go_returns
  exact ⟨by repeat (first | exact Below.refl _ _ | refine below_alloc _ ?_), rfl⟩

set_option maxRecDepth 20000 in
theorem kindOf_72 (w : World) : Calls Try.prog 78 #[.int .u8 72] w fun e w' => Below w.heap.size w w' ∧ e = .returned (.agg #[.int .i64 (0), .int .i64 65535, .int .i64 2]) := by
  go_enter Try.func78, Try.ntmps78
  go_wp2_with fail
  go_returns
  exact ⟨by repeat (first | exact Below.refl _ _ | refine below_alloc _ ?_), rfl⟩

set_option maxRecDepth 20000 in
theorem kindOf_104 (w : World) : Calls Try.prog 78 #[.int .u8 104] w fun e w' => Below w.heap.size w w' ∧ e = .returned (.agg #[.int .i64 (-32768), .int .i64 32767, .int .i64 2]) := by
  go_enter Try.func78, Try.ntmps78
  go_wp2_with fail
  go_returns
  exact ⟨by repeat (first | exact Below.refl _ _ | refine below_alloc _ ?_), rfl⟩

set_option maxRecDepth 20000 in
theorem kindOf_73 (w : World) : Calls Try.prog 78 #[.int .u8 73] w fun e w' => Below w.heap.size w w' ∧ e = .returned (.agg #[.int .i64 (0), .int .i64 4294967295, .int .i64 4]) := by
  go_enter Try.func78, Try.ntmps78
  go_wp2_with fail
  go_returns
  exact ⟨by repeat (first | exact Below.refl _ _ | refine below_alloc _ ?_), rfl⟩

set_option maxRecDepth 20000 in
theorem kindOf_other (w : World) (c : Nat) (h1 : c ≠ 98) (h2 : c ≠ 72) (h3 : c ≠ 104) (h4 : c ≠ 73) : Calls Try.prog 78 #[.int .u8 (c : Int)] w fun e w' => Below w.heap.size w w' ∧ e = .returned (.agg #[.int .i64 1, .int .i64 0, .int .i64 0]) := by
  have b1 : ((c : Int) == 98) = false := by simp; omega
  have b2 : ((c : Int) == 72) = false := by simp; omega
  have b3 : ((c : Int) == 104) = false := by simp; omega
  have b4 : ((c : Int) == 73) = false := by simp; omega
  clear h1 h2 h3 h4
  go_enter Try.func78, Try.ntmps78
  go_wp2_with fail
  go_returns
  exact ⟨by repeat (first | exact Below.refl _ _ | refine below_alloc _ ?_), rfl⟩

theorem kindOf_any (c : Nat) : ∃ (lo hi : Int) (sz : Nat), sz = sizeC c ∧ sz ≤ 4 ∧ (∀ n, fitsC c n = true ↔ lo ≤ n ∧ n ≤ hi) ∧
    ∀ w, Calls Try.prog 78 #[.int .u8 (c : Int)] w fun e w' => Below w.heap.size w w' ∧ e = .returned (.agg #[.int .i64 lo, .int .i64 hi, .int .i64 (sz : Int)]) := by
  rcases (show c = 98 ∨ c = 72 ∨ c = 104 ∨ c = 73 ∨ (c ≠ 98 ∧ c ≠ 72 ∧ c ≠ 104 ∧ c ≠ 73) by omega) with rfl | rfl | rfl | rfl | ⟨h1, h2, h3, h4⟩
  · exact ⟨0, 255, 1, rfl, by decide, fun n => by simp [fitsC], kindOf_98⟩
  · exact ⟨0, 65535, 2, rfl, by decide, fun n => by simp [fitsC], kindOf_72⟩
  · exact ⟨-32768, 32767, 2, rfl, by decide, fun n => by simp [fitsC], kindOf_104⟩
  · exact ⟨0, 4294967295, 4, rfl, by decide, fun n => by simp [fitsC], kindOf_73⟩
  · exact ⟨1, 0, 0, by simp [sizeC, h1, h2, h3, h4], by decide, fun n => by simp [fitsC, h1, h2, h3, h4]; omega, fun w => kindOf_other w c h1 h2 h3 h4⟩

def WiRel (B : Nat) (w : World) (bs : List Int) (sz : Nat) (n : Int) (k : Nat) (vo vi : Value) (wr : World) : Prop := ∃ (v : Value) (pre : List Int), v = vo ∧ vi = .int .i64 ((k : Int) - 1) ∧ OwnB B wr v (bs ++ pre) ∧ (∀ w0, Below B w0 w → Below B w0 wr) ∧ B ≤ wr.heap.size ∧ pre ++ lowB k n = lowB sz n

set_option maxHeartbeats 8000000 in
set_option maxRecDepth 20000 in
theorem kindPut_any (B : Nat) (w : World) (lo hi : Int) (sz : Nat) (hsz : sz ≤ 4) (v : Value) (bs : List Int) (hv : OwnB B w v bs) (hbs : bs.length ≤ 4000000) (hB : B ≤ w.heap.size) (n : Int) :
    Calls Try.prog 79 #[.agg #[.int .i64 lo, .int .i64 hi, .int .i64 (sz : Int)], v, .int .i64 n] w fun e w' => (∀ w0, Below B w0 w → Below B w0 w') ∧
      ((lo ≤ n ∧ n ≤ hi ∧ ∃ v', e = .returned (.tuple #[v', .bool true]) ∧ OwnB B w' v' (bs ++ lowB sz n)) ∨ (¬ (lo ≤ n ∧ n ≤ hi) ∧ e = .returned (.tuple #[.slice none 0 0, .bool false]))) := by
  have HV := Lib.hid hv
  have HBS := Lib.hid hbs
  have HB := Lib.hid hB
  obtain ⟨P, hPE⟩ : ∃ P : Prop, P = (lo ≤ n ∧ n ≤ hi) := ⟨_, rfl⟩
  by_cases h1 : n < lo
  · have b1 : (n < lo) = True := eq_true h1
    have HN : Hid (¬ (lo ≤ n ∧ n ≤ hi)) := Lib.hid (by omega)
    clear hv hbs hB h1 hPE P
    go_enter Try.func79, Try.ntmps79
    go_wp2_with fail
    go_ret2
    exact ⟨fun w0 h => h.alloc HB.out _, .inr ⟨HN.out, rfl⟩⟩
  · have b1 : (n < lo) = False := eq_false h1
    by_cases h2 : hi < n
    · have b2 : (hi < n) = True := eq_true h2
      have HN : Hid (¬ (lo ≤ n ∧ n ≤ hi)) := Lib.hid (by omega)
      clear hv hbs hB h1 h2 hPE P
      go_enter Try.func79, Try.ntmps79
      go_wp2_with fail
      go_ret2
      exact ⟨fun w0 h => h.alloc HB.out _, .inr ⟨HN.out, rfl⟩⟩
    · have b2 : (hi < n) = False := eq_false h2
      have HN : Hid (lo ≤ n ∧ n ≤ hi) := Lib.hid (by omega)
      have q5 : IntKind.i64.wrap ((sz : Int) - 1) = (sz : Int) - 1 := by rw [IntKind.wrap_i64]; omega
      have HSZ := Lib.hid hsz
      clear hv hbs hB h1 h2 hPE P
      go_enter Try.func79, Try.ntmps79
      go_wp2_with fail
      go_loopg [1, 8] sz (fun k vo vi wr => WiRel B w bs sz n k vo vi wr)
      case atStart => exact ⟨_, [], rfl, rfl, by rw [List.append_nil]; exact ownB_stays HV.out ((Below.refl _ _).alloc (Nat.le_refl _) _), fun w0 h => h.alloc HB.out _, Nat.le_trans HB.out (Nat.le_of_lt (heap_more _ _)), rfl⟩
      case round =>
        obtain ⟨vb, pre, rfl, rfl, howb, hbb, hBw, hpre⟩ := hrel
        have HOB := Lib.hid howb
        have HBB := Lib.hid hbb
        have HBW := Lib.hid hBw
        have HPRE := Lib.hid hpre
        clear howb hbb hBw hpre
        rcases Nat.eq_zero_or_pos gk with h0 | h0
        · subst h0
          have HALL : Hid (OwnB B wr vb (bs ++ lowB sz n)) := Lib.hid (by
            have h1 := HPRE.out
            rw [lowB, List.append_nil] at h1
            rw [← h1]; exact HOB.out)
          go_wp2_with fail
          go_ret2
          exact ⟨HBB.out, .inl ⟨HN.out.1, HN.out.2, _, rfl, HALL.out⟩⟩
        · have hjs : gk ≤ 4 := by
            have h2 := congrArg List.length HPRE.out
            have h4 := HSZ.out
            simp [lowB_len] at h2
            omega
          have HLL : Hid ((bs ++ pre).length ≤ 4000010) := Lib.hid (by
            have h2 := congrArg List.length HPRE.out
            have h3 := HBS.out
            have h4 := HSZ.out
            simp [lowB_len] at h2
            simp; omega)
          rcases (show gk = 1 ∨ gk = 2 ∨ gk = 3 ∨ gk = 4 by omega) with hj | hj | hj | hj
          · have hg1 : ((gk : Int) - 1) = 0 := by omega
            rw [hg1]
            have HJ := Lib.hid hj
            clear hj hjs h0 hg1
            go_wp2_with (at_builtin; refine wp_append_b rfl _ _ rfl B vb (bs ++ pre) rfl (ownB_stays HOB.out ((Below.refl _ _).alloc (Nat.le_refl _) _)) _ [n % 256] rfl (num_new .u8 wr [n % 256] _ (by simp)) (fun n c h => by cases h) (by have := HLL.out; simp only [List.length_cons, List.length_nil]; omega) (Nat.le_trans HBW.out (Nat.le_of_lt (heap_more _ _))) ?_)
            intro v7 w7 how7 hk7
            have HSS : Hid (B ≤ w7.heap.size) := Lib.hid (by
              have h := (hk7 (wr.alloc (.cells #[.int .u8 (n % 256)] 5)) (Below.refl _ _)).size
              have h2 := HBW.out
              rw [heap_plus] at h
              omega)
            have HNB : Hid (WiRel B w bs sz n (gk - 1) v7 (.int .i64 (0 - 1)) w7) := Lib.hid ⟨v7, pre ++ [n % 256], rfl, by rw [HJ.out]; rfl, by simpa using how7, fun w0 h => hk7 _ ((HBB.out w0 h).alloc HBW.out _), HSS.out, by
                have h1 := HPRE.out
                rw [HJ.out] at h1 ⊢
                have e : n % 256 = n / 256 ^ 0 % 256 := by omega
                rw [e, List.append_assoc]
                exact h1⟩
            clear how7 hk7
            go_wp2_with fail
            go_roundg (gk - 1)
            case measure => have := HJ.out; omega
            case rel => exact HNB.out
          · have hg2 : ((gk : Int) - 1) = 1 := by omega
            rw [hg2]
            have HJ := Lib.hid hj
            clear hj hjs h0 hg2
            go_wp2_with (at_builtin; refine wp_append_b rfl _ _ rfl B vb (bs ++ pre) rfl (ownB_stays HOB.out ((Below.refl _ _).alloc (Nat.le_refl _) _)) _ [n / 256 % 256] rfl (num_new .u8 wr [n / 256 % 256] _ (by simp)) (fun n c h => by cases h) (by have := HLL.out; simp only [List.length_cons, List.length_nil]; omega) (Nat.le_trans HBW.out (Nat.le_of_lt (heap_more _ _))) ?_)
            intro v7 w7 how7 hk7
            have HSS : Hid (B ≤ w7.heap.size) := Lib.hid (by
              have h := (hk7 (wr.alloc (.cells #[.int .u8 (n / 256 % 256)] 5)) (Below.refl _ _)).size
              have h2 := HBW.out
              rw [heap_plus] at h
              omega)
            have HNB : Hid (WiRel B w bs sz n (gk - 1) v7 (.int .i64 (1 - 1)) w7) := Lib.hid ⟨v7, pre ++ [n / 256 % 256], rfl, by rw [HJ.out]; rfl, by simpa using how7, fun w0 h => hk7 _ ((HBB.out w0 h).alloc HBW.out _), HSS.out, by
                have h1 := HPRE.out
                rw [HJ.out] at h1 ⊢
                have e : n / 256 % 256 = n / 256 ^ 1 % 256 := by omega
                rw [e, List.append_assoc]
                exact h1⟩
            clear how7 hk7
            go_wp2_with fail
            go_roundg (gk - 1)
            case measure => have := HJ.out; omega
            case rel => exact HNB.out
          · have hg3 : ((gk : Int) - 1) = 2 := by omega
            rw [hg3]
            have HJ := Lib.hid hj
            clear hj hjs h0 hg3
            go_wp2_with (at_builtin; refine wp_append_b rfl _ _ rfl B vb (bs ++ pre) rfl (ownB_stays HOB.out ((Below.refl _ _).alloc (Nat.le_refl _) _)) _ [n / 65536 % 256] rfl (num_new .u8 wr [n / 65536 % 256] _ (by simp)) (fun n c h => by cases h) (by have := HLL.out; simp only [List.length_cons, List.length_nil]; omega) (Nat.le_trans HBW.out (Nat.le_of_lt (heap_more _ _))) ?_)
            intro v7 w7 how7 hk7
            have HSS : Hid (B ≤ w7.heap.size) := Lib.hid (by
              have h := (hk7 (wr.alloc (.cells #[.int .u8 (n / 65536 % 256)] 5)) (Below.refl _ _)).size
              have h2 := HBW.out
              rw [heap_plus] at h
              omega)
            have HNB : Hid (WiRel B w bs sz n (gk - 1) v7 (.int .i64 (2 - 1)) w7) := Lib.hid ⟨v7, pre ++ [n / 65536 % 256], rfl, by rw [HJ.out]; rfl, by simpa using how7, fun w0 h => hk7 _ ((HBB.out w0 h).alloc HBW.out _), HSS.out, by
                have h1 := HPRE.out
                rw [HJ.out] at h1 ⊢
                have e : n / 65536 % 256 = n / 256 ^ 2 % 256 := by omega
                rw [e, List.append_assoc]
                exact h1⟩
            clear how7 hk7
            go_wp2_with fail
            go_roundg (gk - 1)
            case measure => have := HJ.out; omega
            case rel => exact HNB.out
          · have hg4 : ((gk : Int) - 1) = 3 := by omega
            rw [hg4]
            have HJ := Lib.hid hj
            clear hj hjs h0 hg4
            go_wp2_with (at_builtin; refine wp_append_b rfl _ _ rfl B vb (bs ++ pre) rfl (ownB_stays HOB.out ((Below.refl _ _).alloc (Nat.le_refl _) _)) _ [n / 16777216 % 256] rfl (num_new .u8 wr [n / 16777216 % 256] _ (by simp)) (fun n c h => by cases h) (by have := HLL.out; simp only [List.length_cons, List.length_nil]; omega) (Nat.le_trans HBW.out (Nat.le_of_lt (heap_more _ _))) ?_)
            intro v7 w7 how7 hk7
            have HSS : Hid (B ≤ w7.heap.size) := Lib.hid (by
              have h := (hk7 (wr.alloc (.cells #[.int .u8 (n / 16777216 % 256)] 5)) (Below.refl _ _)).size
              have h2 := HBW.out
              rw [heap_plus] at h
              omega)
            have HNB : Hid (WiRel B w bs sz n (gk - 1) v7 (.int .i64 (3 - 1)) w7) := Lib.hid ⟨v7, pre ++ [n / 16777216 % 256], rfl, by rw [HJ.out]; rfl, by simpa using how7, fun w0 h => hk7 _ ((HBB.out w0 h).alloc HBW.out _), HSS.out, by
                have h1 := HPRE.out
                rw [HJ.out] at h1 ⊢
                have e : n / 16777216 % 256 = n / 256 ^ 3 % 256 := by omega
                rw [e, List.append_assoc]
                exact h1⟩
            clear how7 hk7
            go_wp2_with fail
            go_roundg (gk - 1)
            case measure => have := HJ.out; omega
            case rel => exact HNB.out
end Go.Proofs.Ytlpnikolnohcaaa
