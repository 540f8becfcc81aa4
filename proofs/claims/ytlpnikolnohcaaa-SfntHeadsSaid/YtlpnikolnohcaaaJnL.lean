/-
  The row in which tables are joined, by lists.
-/
import Derived.Test.YtlpnikolnohcaaaJsz
import Derived.Test.YtlpnikolnohcaaaTabP
import Derived.Laws.CopyOwn
namespace Go.Proofs.Ytlpnikolnohcaaa
open Go Go.RowKit

/-- the whole row, what is not told yet as noughts -/
def padJ (j : JoinS) (n S : Nat) : List Int := j.recs ++ (List.replicate (12 + 16 * n - j.recs.length) 0 ++ (j.rest ++ List.replicate (S - j.place) 0))

theorem splice_map {α β : Type} (f : α → β) (L : List α) (o : Nat) (cs : List α) : (splice L o cs).map f = splice (L.map f) o (cs.map f) := by
  unfold splice
  simp [List.map_take, List.map_drop]

theorem splice_pad (A R cs : List Int) (k : Nat) (h : cs.length ≤ k) : splice (A ++ (List.replicate k 0 ++ R)) A.length cs = (A ++ cs) ++ (List.replicate (k - cs.length) 0 ++ R) := by
  unfold splice
  rw [List.take_left' rfl, List.drop_append, List.drop_of_length_le (by omega), List.nil_append, show A.length + cs.length - A.length = cs.length by omega, List.drop_append_of_le_length (by simp; exact h), List.drop_replicate, List.append_assoc]

theorem putR_len : ∀ (l : List Int) (p : List Nat) (b : List Int), putR l p = some b → b.length = ((l.zip p).map fun x => sizeC x.2).sum
  | [], p, b, h => by simp only [putR, Option.some.injEq] at h; subst h; simp
  | _ :: _, [], b, h => by simp [putR] at h
  | n :: l, c :: p, b, h => by
    obtain ⟨_, b', rfl, hr⟩ := putR_cons h
    simp only [List.length_append, lowB_len, List.zip_cons_cons, List.map_cons, List.sum_cons]
    rw [putR_len l p b' hr]

/-- numbers that fit are put -/
theorem put_three (a b c : Int) (ha : 0 ≤ a ∧ a ≤ 4294967295) (hb : 0 ≤ b ∧ b ≤ 4294967295) (hc : 0 ≤ c ∧ c ≤ 4294967295) : (putA [a, b, c] ⟨#[73, 73, 73]⟩).2.length = 12 := by
  have hp : plan ⟨#[73, 73, 73]⟩ = [73, 73, 73] := rfl
  have hs : (⟨#[73, 73, 73]⟩ : ByteArray).size = 3 := rfl
  unfold putA
  rw [hs, hp]
  simp [putR, fitsC, sizeC, lowB_len, ha, hb, hc]

theorem put_one (a : Int) (ha : 0 ≤ a ∧ a ≤ 4294967295) : (putA [a] ⟨#[73]⟩).2.length = 4 := by
  have hp : plan ⟨#[73]⟩ = [73] := rfl
  have hs : (⟨#[73]⟩ : ByteArray).size = 1 := rfl
  unfold putA
  rw [hs, hp]
  simp [putR, fitsC, sizeC, lowB_len, ha]

theorem headL_len (n : Nat) (h1 : 1 ≤ n) (h2 : n ≤ 64) : (headL n).length = 12 := by
  have hpn : 2 ^ Nat.log2 n ≤ n := (Nat.le_log2 (by omega)).1 (Nat.le_refl _)
  have he6 : Nat.log2 n < 7 := (Nat.log2_lt (by omega)).2 (by omega)
  have hp : plan ⟨#[73, 72, 72, 72, 72]⟩ = [73, 72, 72, 72, 72] := rfl
  have hs : (⟨#[73, 72, 72, 72, 72]⟩ : ByteArray).size = 5 := rfl
  unfold headL putA
  rw [hs, hp]
  generalize 2 ^ Nat.log2 n = p at hpn ⊢
  have e1 : ((n : Nat) : Int) ≤ 65535 := by omega
  have e2 : ((16 * p : Nat) : Int) ≤ 65535 := by omega
  have e3 : ((Nat.log2 n : Nat) : Int) ≤ 65535 := by omega
  have e4 : ((16 * n - 16 * p : Nat) : Int) ≤ 65535 := by omega
  have f1 : (0 : Int) ≤ ((n : Nat) : Int) := Int.natCast_nonneg _
  have f2 : (0 : Int) ≤ ((16 * p : Nat) : Int) := Int.natCast_nonneg _
  have f3 : (0 : Int) ≤ ((Nat.log2 n : Nat) : Int) := Int.natCast_nonneg _
  have f4 : (0 : Int) ≤ ((16 * n - 16 * p : Nat) : Int) := Int.natCast_nonneg _
  generalize ((16 * p : Nat) : Int) = x2 at e2 f2 ⊢
  generalize ((16 * n - 16 * p : Nat) : Int) = x4 at e4 f4 ⊢
  generalize ((Nat.log2 n : Nat) : Int) = x3 at e3 f3 ⊢
  generalize ((n : Nat) : Int) = x1 at e1 f1 ⊢
  simp [putR, fitsC, sizeC, lowB_len, e1, e2, e3, e4, f1, f2, f3, f4]

theorem sumTag_b (t b : List Int) : 0 ≤ sumTag t b ∧ sumTag t b ≤ 4294967295 := by
  unfold sumTag sumS
  omega

/-- how it stands after the first i tables -/
theorem joinL_facts (ts bs : List (List Int)) (hlen : ts.length = bs.length) (h1 : 1 ≤ ts.length) (h64 : ts.length ≤ 64) (h4 : ∀ t ∈ ts, t.length = 4) (hsz : sizeJ bs bs.length ≤ 1000000) : ∀ i, i ≤ ts.length → ∃ j, joinL ts bs ts.length i = some j ∧ j.recs.length = 12 + 16 * i ∧ j.place = sizeJ bs i ∧ j.rest.length + (12 + 16 * ts.length) = j.place ∧ j.place % 4 = 0
  | 0, _ => ⟨⟨headL ts.length, [], 12 + 16 * ts.length, none⟩, rfl, by simp [headL_len _ h1 h64], by simp [sizeJ, hlen], by simp, by simp; omega⟩
  | i + 1, hi => by
    obtain ⟨j, hj, hr, hp, hre, hm⟩ := joinL_facts ts bs hlen h1 h64 h4 hsz i (by omega)
    have hle := sizeJ_le bs (i + 1) (bs.length - (i + 1))
    rw [show i + 1 + (bs.length - (i + 1)) = bs.length by omega] at hle
    have hup := upN_le (bs.getD i []).length
    have hstep : sizeJ bs (i + 1) = sizeJ bs i + upN (bs.getD i []).length := rfl
    have ht : (ts.getD i []).length = 4 := by
      rw [List.getD_eq_getElem?_getD, List.getElem?_eq_getElem (by omega)]
      exact h4 _ (List.getElem_mem _)
    have hs := sumTag_b (ts.getD i []) (bs.getD i [])
    have hput := put_three (sumTag (ts.getD i []) (bs.getD i [])) (j.place : Int) ((bs.getD i []).length : Int) hs (by omega) (by omega)
    have e : joinL ts bs ts.length (i + 1) = joinOne j (ts.getD i []) (bs.getD i []) := by
      show (joinL ts bs ts.length i).bind _ = _
      rw [hj]; rfl
    rw [e]
    unfold joinOne
    rw [if_neg (by omega)]
    refine ⟨_, rfl, ?_, ?_, ?_, ?_⟩
    · simp only [List.length_append, hput, ht, hr]; omega
    · simp only []; omega
    · simp only [List.length_append, List.length_replicate]; omega
    · simp only []; omega
end Go.Proofs.Ytlpnikolnohcaaa
