/-
  The document's find.
-/
import Derived.Test.YtbdhgjaoojimmaaDoorSim
import Derived.WalkLawsBesides
import Derived.WalkSpells
import Derived.Deep.LoopGhost
import Derived.Lib.Hide
namespace Go.Proofs.YtbdhgjaoojimmaaDoor
open Go Go.RowKit

/-- the value of the first row that has a character; else another one -/
def findL : List (Int × Int × Int) → Int → Int → Int
  | [], _, o => o
  | x :: t, r, o => if x.1 ≤ r ∧ r ≤ x.2.1 then x.2.2 else findL t r o

/-- a table lies in memory -/
def TableAt (w : World) (g : Nat) (t : List (Int × Int × Int)) : Prop :=
  ∀ (j : Nat) (h : j < t.length), w.cell? ⟨g, j * 3, none⟩ = some (.int .i32 t[j].1) ∧ w.cell? ⟨g, j * 3 + 1, none⟩ = some (.int .i32 t[j].2.1) ∧ w.cell? ⟨g, j * 3 + 2, none⟩ = some (.int .u8 t[j].2.2)

theorem cellsT_at (t : List (Int × Int × Int)) : ∀ (j : Nat) (h : j < t.length), (cellsT t)[j * 3]? = some (.int .i32 t[j].1) ∧ (cellsT t)[j * 3 + 1]? = some (.int .i32 t[j].2.1) ∧ (cellsT t)[j * 3 + 2]? = some (.int .u8 t[j].2.2) := by
  induction t with
  | nil => intro j h; simp at h
  | cons x t ih =>
    intro j h
    have e : cellsT (x :: t) = .int .i32 x.1 :: .int .i32 x.2.1 :: .int .u8 x.2.2 :: cellsT t := rfl
    rw [e]
    cases j with
    | zero => exact ⟨rfl, rfl, rfl⟩
    | succ j =>
      have := ih j (by simpa using h)
      rw [show (j + 1) * 3 = j * 3 + 1 + 1 + 1 by omega]
      exact this

theorem table_new (w : World) (t : List (Int × Int × Int)) (ty : TypeId) : TableAt (w.alloc (.cells (cellsT t).toArray ty)) w.heap.size t := by
  intro j h
  obtain ⟨h1, h2, h3⟩ := cellsT_at t j h
  refine ⟨?_, ?_, ?_⟩
  · rw [cell_of_row _ w.heap.size _ _ _ _ (heap_alloc_new w _)]; simpa using h1
  · rw [cell_of_row _ w.heap.size _ _ _ _ (heap_alloc_new w _)]; simpa using h2
  · rw [cell_of_row _ w.heap.size _ _ _ _ (heap_alloc_new w _)]; simpa using h3

def FindRel (w : World) (t : List (Int × Int × Int)) (r o : Int) (n k : Nat) (vi : Value) (wr : World) : Prop :=
  w = wr ∧ ∃ i, i + k = n ∧ vi = .int .i64 ((i : Nat) : Int) ∧ findL t r o = findL (t.drop i) r o

set_option maxHeartbeats 1000000 in
theorem refFind_any (t : List (Int × Int × Int)) (g : Nat) (r o : Int) (w : World) (hl : t.length ≤ 100000) (ht : TableAt w g t) :
    Calls Tryd.prog 23 #[.slice (some ⟨g, 0, none⟩) t.length t.length, .int .i32 r, .int .u8 o] w fun e w' => e = .returned (.int .u8 (findL t r o)) ∧ w = w' := by
  obtain ⟨n, hn⟩ : ∃ n, n = t.length := ⟨_, rfl⟩
  have HT := Lib.hid ht
  have HN := Lib.hid hn
  obtain ⟨R, hR⟩ : ∃ R, R = findL t r o := ⟨_, rfl⟩
  have HR := Lib.hid hR
  rw [← hn] at hl ⊢
  rw [← hR]
  have hnI : (n : Int) ≤ 100000 := by omega
  clear ht hn hR
  go_enter Tryd.func23, Tryd.ntmps23
  go_wp2_with fail
  go_loopg [7] n (fun k vi wr => FindRel w t r o n k vi wr)
  case atStart => exact ⟨rfl, 0, by omega, rfl, rfl⟩
  case round =>
    obtain ⟨rfl, i, hik, rfl, hf⟩ := hrel
    have HF := Lib.hid hf
    clear hf
    rcases Nat.eq_zero_or_pos gk with h0 | h0
    · obtain rfl := h0
      obtain rfl : i = n := by omega
      have HE : Hid (R = o) := Lib.hid (by rw [HR.out, HF.out, List.drop_of_length_le (by have := HN.out; omega)]; rfl)
      go_wp2_with fail
      go_ret
      exact ⟨by rw [HE.out]; rfl, rfl⟩
    · have hin : i < n := by omega
      have hit : i < t.length := by have := HN.out; omega
      obtain ⟨c1, c2, c3⟩ := HT.out i hit
      obtain ⟨a, ha⟩ : ∃ a, a = t[i].1 := ⟨_, rfl⟩
      obtain ⟨b, hb⟩ : ∃ b, b = t[i].2.1 := ⟨_, rfl⟩
      obtain ⟨v, hv⟩ : ∃ v, v = t[i].2.2 := ⟨_, rfl⟩
      rw [← ha] at c1
      rw [← hb] at c2
      rw [← hv] at c3
      have hd : findL (t.drop i) r o = if a ≤ r ∧ r ≤ b then v else findL (t.drop (i + 1)) r o := by
        rw [List.drop_eq_getElem_cons hit, findL, ← ha, ← hb, ← hv]
      have HD := Lib.hid hd
      have hiI : (i : Int) < (n : Int) := by omega
      have hi0I : (0 : Int) ≤ (i : Int) := Int.natCast_nonneg _
      clear ha hb hv hd
      rcases (show ¬ a ≤ r ∨ (a ≤ r ∧ ¬ r ≤ b) ∨ (a ≤ r ∧ r ≤ b) by omega) with hc | hc | hc
      · have b1 : (a ≤ r) = False := by simp; omega
        have HNX : Hid (findL t r o = findL (t.drop (i + 1)) r o) := Lib.hid (by rw [HF.out, HD.out, if_neg (by omega)])
        clear hc
        go_wp2_with fail
        go_roundg (gk - 1)
        case measure => omega
        case rel => exact ⟨rfl, i + 1, by omega, by first | rfl | exact congrArg _ (by omega), HNX.out⟩
      · have b1 : (a ≤ r) = True := by simp; omega
        have b2 : (r ≤ b) = False := by simp; omega
        have HNX : Hid (findL t r o = findL (t.drop (i + 1)) r o) := Lib.hid (by rw [HF.out, HD.out, if_neg (by omega)])
        clear hc
        go_wp2_with fail
        go_roundg (gk - 1)
        case measure => omega
        case rel => exact ⟨rfl, i + 1, by omega, by first | rfl | exact congrArg _ (by omega), HNX.out⟩
      · have b1 : (a ≤ r) = True := by simp; omega
        have b2 : (r ≤ b) = True := by simp; omega
        have HE : Hid (R = v) := Lib.hid (by rw [HR.out, HF.out, HD.out, if_pos hc])
        clear hc
        go_wp2_with fail
        go_ret
        exact ⟨by rw [HE.out]; rfl, rfl⟩
end Go.Proofs.YtbdhgjaoojimmaaDoor
