/-
  ResolveBrackets, by lists.
-/
import Derived.Test.YtdfgecndbfmgnaaDoorPp
import Derived.Test.YtdfgecndbfmgnaaDoorFBr
namespace Go.Proofs.YtdfgecndbfmgnaaDoor
open Go Go.RowKit
set_option linter.unusedVariables false
set_option linter.unusedSimpArgs false

theorem runB_len : ∀ (t : List (Int × Int)) (i : Int) (st : List (Int × Int)), (runB i t st).length ≤ t.length
  | [], _, _ => Nat.le_refl _
  | x :: t, i, st => by
    have ih := runB_len t (i + 1)
    rw [runB]
    split
    · split
      · split
        · exact Nat.zero_le _
        · exact Nat.le_succ_of_le (ih _)
      · split
        · exact Nat.le_succ_of_le (ih _)
        · simp only [List.length_cons]; exact Nat.succ_le_succ (ih _)
    · exact Nat.le_succ_of_le (ih _)
theorem zip_take_le : ∀ (a b : List Int) (m : Nat), b.length ≤ m → (a.take m).zip b = a.zip b
  | [], b, m, _ => by simp
  | x :: a, [], m, _ => by simp
  | x :: a, y :: b, 0, h => by simp at h
  | x :: a, y :: b, m + 1, h => by
    simp only [List.take_succ_cons, List.zip_cons_cons]
    rw [zip_take_le a b m (by simpa using h)]
theorem pPrs_eq (N : Nat) (l now : List Int) (hl : l.length ≤ 400000000) (hN : l.length < N) : pPrs N l now = some (bracketsS l now) := by
  unfold pPrs
  obtain ⟨m, hm, hc⟩ : ∃ m : Nat, (if ((now.length : Nat) : Int) < ((l.length : Nat) : Int) then ((now.length : Nat) : Int) else ((l.length : Nat) : Int)) = (m : Int) ∧ m ≤ l.length ∧ m ≤ now.length ∧ (l.take m).zip now = l.zip now := by
    by_cases h : now.length < l.length
    · exact ⟨now.length, by rw [if_pos (by omega)], by omega, Nat.le_refl _, zip_take_le l now _ (Nat.le_refl _)⟩
    · exact ⟨l.length, by rw [if_neg (by omega)], Nat.le_refl _, by omega, by rw [List.take_length]⟩
  obtain ⟨h1, h2, h3⟩ := hc
  have hcut : cutx l 0 (m : Int) = some (l.take m) := by
    unfold cutx
    rw [if_pos (by omega)]
    simp
  have hlt : (l.take m).length = m := by rw [List.length_take]; omega
  rw [hm, hcut, Option.bind_some, paired_eq N _ _ (by omega) (by omega) (by omega), Option.bind_some, h3]
  have hap := runB_apart (l.zip now) 0 [] List.Pairwise.nil (fun x hx => by cases hx)
  have hle := runB_len (l.zip now) 0 []
  have hz : (l.zip now).length ≤ l.length := by rw [List.length_zip]; omega
  have hs : kSort N (runB 0 (l.zip now) []) = some (srtP (runB 0 (l.zip now) [])) := by
    unfold kSort
    rw [if_pos ⟨by omega, apartP_of _ hap⟩]
  rw [hs, Option.bind_some, brackets_sorted l now _ (srtP_lt _ (apartP_of _ hap)) (fun p => (srtP_perm _).mem_iff)]

theorem around_true : kAround 3000 = some true := by kernel_rfl

theorem fBrackets_loop (N : Nat) (l : List (Int × Int)) (hl : l.length ≤ 400000000) : ∀ (k i : Nat), l.length - i < k → fBrackets_L1 N l l k (i : Int) = some (Ctl.go ())
  | 0, _, h => absurd h (Nat.not_lt_zero _)
  | k + 1, i, hk => by
    unfold fBrackets_L1
    by_cases h : i < l.length
    · have ih := fBrackets_loop N l hl k (i + 1) (by omega)
      rw [if_pos (by omega)]
      simp only [ixge h, Option.bind_some]
      rw [if_neg (fun e => e rfl), if_neg (fun e => e rfl), wne i (by omega)]
      exact ih
    · rw [if_neg (by omega)]
theorem fBrackets_true (p0 p1 : List Int) : ∃ N, fBrackets N p0 p1 = some true := by
  refine ⟨3000, ?_⟩
  unfold fBrackets
  by_cases h0 : ((p0.length : Nat) : Int) > 800
  · rw [if_pos h0, around_true]; rfl
  rw [if_neg h0]
  by_cases h1 : ((p1.length : Nat) : Int) > 800
  · rw [if_pos h1, around_true]; rfl
  rw [if_neg h1]
  simp only [Option.bind_some]
  have hb := brackets_len p0 p1
  rw [pPrs_eq 3000 p0 p1 (by omega) (by omega), Option.bind_some, rPrs_eq 3000 (by omega) p0 p1 (by omega) (by omega), Option.bind_some, if_neg (fun e => e rfl)]
  have hz := fBrackets_loop 3000 (bracketsS p0 p1) (by omega) 3000 0 (by omega)
  have hz : fBrackets_L1 3000 (bracketsS p0 p1) (bracketsS p0 p1) 3000 0 = some (Ctl.go ()) := hz
  rw [hz]
  simp only [Option.bind_some]
  rw [around_true]; rfl
theorem brackets_calls (W : World) (a b : List Int) {A B : Option Addr} {c d : Nat} (ha : Vw [] .i32 W A c a) (hb : Vw [] .u8 W B d b) (hm : MirW W) :
    Calls Tryd.prog 3 #[.slice A a.length c, .slice B b.length d] W fun e W' => e = .returned (.bool true) ∧ Below W.heap.size W W' := by
  obtain ⟨N, hN⟩ := fBrackets_true a b
  refine (fBrackets_ok N a b A c B d true hN W ha hb hm).mono ?_
  rintro e w ⟨v, rfl, rfl, h⟩
  exact ⟨rfl, h.below⟩
end Go.Proofs.YtdfgecndbfmgnaaDoor
