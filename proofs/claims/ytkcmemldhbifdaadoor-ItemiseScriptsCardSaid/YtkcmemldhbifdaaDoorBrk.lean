/-
  The document's Brackets and Bracket.
-/
import Derived.Test.YtkcmemldhbifdaaDoorSim
import Derived.Deep.RegionHeld3
namespace Go.Proofs.YtkcmemldhbifdaaDoor
open Go Go.RowKit
def pairsOf (ops : List Oper) : List (Int × Int) := ops.filterMap fun o =>
  match o.op with
  | .build _ #[(_, .const (.int _ a)), (_, .const (.int _ b))] => some (a, b)
  | _ => none
def pairTable (fn : Func) : List (Int × Int) := match fn.body with
  | some c => pairsOf (opsOf c)
  | none => []
def cells2 (t : List (Int × Int)) : List Value := t.flatMap fun x => [.int .i32 x.1, .int .i32 x.2]
def PairsAt (w : World) (g : Nat) (t : List (Int × Int)) : Prop :=
  ∀ (j : Nat) (h : j < t.length), w.cell? ⟨g, j * 2, none⟩ = some (.int .i32 t[j].1) ∧ w.cell? ⟨g, j * 2 + 1, none⟩ = some (.int .i32 t[j].2)
theorem cells2_at (t : List (Int × Int)) : ∀ (j : Nat) (h : j < t.length), (cells2 t)[j * 2]? = some (.int .i32 t[j].1) ∧ (cells2 t)[j * 2 + 1]? = some (.int .i32 t[j].2) := by
  induction t with
  | nil => intro j h; simp at h
  | cons x t ih =>
    intro j h
    have e : cells2 (x :: t) = .int .i32 x.1 :: .int .i32 x.2 :: cells2 t := rfl
    rw [e]
    cases j with
    | zero => exact ⟨rfl, rfl⟩
    | succ j =>
      have := ih j (by simpa using h)
      rw [show (j + 1) * 2 = j * 2 + 1 + 1 by omega]
      exact this
theorem pairs_new (w : World) (t : List (Int × Int)) (ty : TypeId) : PairsAt (w.alloc (.cells (cells2 t).toArray ty)) w.heap.size t := by
  intro j h
  obtain ⟨h1, h2⟩ := cells2_at t j h
  refine ⟨?_, ?_⟩
  · rw [cell_of_row _ w.heap.size _ _ _ _ (heap_alloc_new w _)]; simpa using h1
  · rw [cell_of_row _ w.heap.size _ _ _ _ (heap_alloc_new w _)]; simpa using h2
set_option maxRecDepth 100000 in
theorem refBrackets_any (w : World) : Calls Tryd.prog 26 #[] w fun e w' => e = .returned (.slice (some ⟨w.heap.size, 0, none⟩) (pairTable Tryd.f26).length (pairTable Tryd.f26).length) ∧ w' = w.alloc (.cells (cells2 (pairTable Tryd.f26)).toArray 60) := by
  go_enter Tryd.func26, Tryd.ntmps26
  refine simV_wp _ 0 _ _ (w.alloc (.cells (cells2 (pairTable Tryd.f26)).toArray 60)) (.slice (some ⟨w.heap.size, 0, none⟩) (pairTable Tryd.f26).length (pairTable Tryd.f26).length) rfl (by kernel_rfl) ⟨rfl, rfl⟩
def bracketS : List (Int × Int) → Int → Int × Bool × Bool
  | [], _ => (0, false, false)
  | x :: t, r => if r = x.1 ∨ r = x.2 then (if x.2 = 9002 then 12297 else x.2, decide (r = x.1), true) else bracketS t r
def BrkRel (w1 : World) (t : List (Int × Int)) (r : Int) (n k : Nat) (vi : Value) (wr : World) : Prop :=
  w1 = wr ∧ ∃ i, i + k = n ∧ vi = .int .i64 ((i : Nat) : Int) ∧ bracketS t r = bracketS (t.drop i) r
set_option maxHeartbeats 2000000 in
set_option maxRecDepth 20000 in
theorem refBracket_is (t : List (Int × Int)) (hT : ∀ w, Calls Tryd.prog 26 #[] w fun e w' => e = .returned (.slice (some ⟨w.heap.size, 0, none⟩) t.length t.length) ∧ w' = w.alloc (.cells (cells2 t).toArray 60))
    (hl : t.length ≤ 100000) (r : Int) (w : World) :
    Calls Tryd.prog 19 #[.int .i32 r] w fun e w' => e = .returned (.tuple #[.int .i32 (bracketS t r).1, .bool (bracketS t r).2.1, .bool (bracketS t r).2.2]) ∧ Below w.heap.size w w' := by
  obtain ⟨n, hn⟩ : ∃ n, n = t.length := ⟨_, rfl⟩
  have HN := Lib.hid hn
  obtain ⟨R, hR⟩ : ∃ R, R = bracketS t r := ⟨_, rfl⟩
  have HR := Lib.hid hR
  obtain ⟨W1, hW1⟩ : ∃ W1, W1 = w.alloc (.cells (cells2 t).toArray 60) := ⟨_, rfl⟩
  have HT : Hid (PairsAt W1 w.heap.size t) := Lib.hid (by rw [hW1]; exact pairs_new w t _)
  have HBW : Hid (Below w.heap.size w W1) := Lib.hid (by rw [hW1]; exact (Below.refl _ w).alloc (Nat.le_refl _) _)
  have hTw := hT w
  rw [← hW1, ← hn] at hTw
  have HC := Lib.hid hTw
  rw [← hn] at hl
  rw [← hR]
  have hnI : (n : Int) ≤ 100000 := by omega
  obtain ⟨g, hg⟩ : ∃ g, g = w.heap.size := ⟨_, rfl⟩
  rw [← hg] at HT HC
  clear hn hR hW1 hT hTw hg
  go_enter Tryd.func19, Tryd.ntmps19
  go_wp2_with fail
  refine (HC.out).mono ?_
  rintro e w1 ⟨rfl, rfl⟩
  go_wp2_with fail
  go_loopg [6] n (fun k vi wr => BrkRel w1 t r n k vi wr)
  case atStart => exact ⟨rfl, 0, by omega, rfl, rfl⟩
  case round =>
    obtain ⟨rfl, i, hik, rfl, hf⟩ := hrel
    have HF := Lib.hid hf
    clear hf
    rcases Nat.eq_zero_or_pos gk with h0 | h0
    · obtain rfl := h0
      obtain rfl : i = n := by omega
      have HE : Hid (R = (0, false, false)) := Lib.hid (by rw [HR.out, HF.out, List.drop_of_length_le (by have := HN.out; omega)]; rfl)
      go_wp2_with fail
      go_ret3
      exact ⟨by rw [HE.out]; rfl, HBW.out⟩
    · have hin : i < n := by omega
      have hit : i < t.length := by have := HN.out; omega
      obtain ⟨c1, c2⟩ := HT.out i hit
      obtain ⟨a, ha⟩ : ∃ a, a = t[i].1 := ⟨_, rfl⟩
      obtain ⟨b, hb⟩ : ∃ b, b = t[i].2 := ⟨_, rfl⟩
      rw [← ha] at c1
      rw [← hb] at c2
      have hd : bracketS (t.drop i) r = if r = a ∨ r = b then (if b = 9002 then 12297 else b, decide (r = a), true) else bracketS (t.drop (i + 1)) r := by
        rw [List.drop_eq_getElem_cons hit, bracketS, ← ha, ← hb]
      have HD := Lib.hid hd
      have hiI : (i : Int) < (n : Int) := by omega
      have hi0I : (0 : Int) ≤ (i : Int) := Int.natCast_nonneg _
      clear ha hb hd
      have hends : ∀ (_ : r = a ∨ r = b), R = (if b = 9002 then 12297 else b, decide (r = a), true) := fun h => by rw [HR.out, HF.out, HD.out, if_pos h]
      have HEND := Lib.hid hends
      clear hends
      by_cases h1 : r = a
      · have hE := HEND.out (.inl h1)
        have HE : Hid (R = (if b = 9002 then 12297 else b, true, true)) := Lib.hid (by rw [hE]; simp [h1])
        have b1 : (r == a) = true := by simp [h1]
        have b2 : (r != a) = false := by simp [h1]
        clear hE
        by_cases h9 : b = 9002
        · have HE9 : Hid (R = (12297, true, true)) := Lib.hid (by rw [HE.out, if_pos h9])
          subst h9
          subst h1
          go_wp2_with fail
          go_region_held3 (fun w' => w'.cell? ⟨g, i * 2, none⟩ = some (.int .i32 r)) (go_keep) (fail)
          all_goals go_wp2_with fail
          go_ret3
          exact ⟨by rw [HE9.out]; rfl, HBW.out.drew⟩
        · have HE9 : Hid (R = (b, true, true)) := Lib.hid (by rw [HE.out, if_neg h9])
          have b9 : (b == 9002) = false := by simp [h9]
          subst h1
          go_wp2_with fail
          go_region_held3 (fun w' => w'.cell? ⟨g, i * 2, none⟩ = some (.int .i32 r) ∧ w'.cell? ⟨g, i * 2 + 1, none⟩ = some (.int .i32 b)) (go_keep) (fail)
          all_goals go_wp2_with fail
          go_ret3
          exact ⟨by rw [HE9.out]; rfl, HBW.out.drew⟩
      · have b1 : (r == a) = false := by simp [h1]
        by_cases h2 : r = b
        · have hE := HEND.out (.inr h2)
          have HE : Hid (R = (if b = 9002 then 12297 else b, false, true)) := Lib.hid (by rw [hE]; simp [h1])
          clear hE
          by_cases h9 : b = 9002
          · have HE9 : Hid (R = (12297, false, true)) := Lib.hid (by rw [HE.out, if_pos h9])
            subst h9
            subst h2
            go_wp2_with fail
            go_region_held3 (fun w' => w'.cell? ⟨g, i * 2, none⟩ = some (.int .i32 a)) (go_keep) (fail)
            all_goals go_wp2_with fail
            go_ret3
            exact ⟨by rw [HE9.out]; first | rfl | simp [h1], HBW.out.drew⟩
          · have HE9 : Hid (R = (b, false, true)) := Lib.hid (by rw [HE.out, if_neg h9])
            have b9 : (b == 9002) = false := by simp [h9]
            subst h2
            go_wp2_with fail
            go_region_held3 (fun w' => w'.cell? ⟨g, i * 2, none⟩ = some (.int .i32 a) ∧ w'.cell? ⟨g, i * 2 + 1, none⟩ = some (.int .i32 r)) (go_keep) (fail)
            all_goals go_wp2_with fail
            go_ret3
            exact ⟨by rw [HE9.out]; first | rfl | simp [h1], HBW.out.drew⟩
        · have b2 : (r == b) = false := by simp [h2]
          have b3 : (r != a) = true := by simp [h1]
          have b4 : (r != b) = true := by simp [h2]
          have HNX : Hid (bracketS t r = bracketS (t.drop (i + 1)) r) := Lib.hid (by
            rw [HF.out, HD.out, if_neg (by rintro (h | h); exact h1 h; exact h2 h)])
          go_wp2_with fail
          go_roundg (gk - 1)
          case measure => omega
          case rel => exact ⟨rfl, i + 1, by omega, by first | rfl | exact congrArg _ (by omega), HNX.out⟩
end Go.Proofs.YtkcmemldhbifdaaDoor
