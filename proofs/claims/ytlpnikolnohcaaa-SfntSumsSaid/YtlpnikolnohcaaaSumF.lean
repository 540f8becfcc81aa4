/-
  What SfntSums asks of what is joined, by lists.
-/
import Derived.Test.YtlpnikolnohcaaaJoinR
namespace Go.Proofs.Ytlpnikolnohcaaa
open Go Go.RowKit

/-- the bytes of the first i bodies -/
def sumLen (bs : List (List Int)) : Nat → Nat
  | 0 => 0
  | i + 1 => sumLen bs i + (bs.getD i []).length

theorem sizeJ_sum (bs : List (List Int)) : ∀ i, sizeJ bs i ≤ 12 + 16 * bs.length + sumLen bs i + 3 * i
  | 0 => by rw [sizeJ_zero]; unfold sumLen; omega
  | i + 1 => by
    have h1 := sizeJ_sum bs i
    have h2 := upN_le (bs.getD i []).length
    rw [sizeJ_next]
    show _ ≤ 12 + 16 * bs.length + (sumLen bs i + (bs.getD i []).length) + 3 * (i + 1)
    omega

theorem joinS_err (ts bs : List (List Int)) (h : (joinS ts bs).2 ≠ 0) : (joinS ts bs).1 = [] := by
  unfold joinS at h ⊢
  split
  · rfl
  · rename_i hc
    rw [if_neg hc] at h
    split
    · rfl
    · rename_i ho
      rw [if_neg ho] at h
      cases hj : joinL ts bs ts.length ts.length with
      | none => rfl
      | some j =>
        rw [hj] at h
        simp only at h ⊢
        split
        · rfl
        · rename_i hp
          rw [if_neg hp] at h
          exact absurd rfl h

/-- all that is asked of a font that was joined -/
structure Joined (ts bs : List (List Int)) (E : List Int) : Prop where
  bytes : AllB E
  whole : E.length % 4 = 0 ∧ E.length ≤ 1000000
  same : ts.length = bs.length ∧ ts.length ≤ 64
  tabs : tablesS E = ((List.range ts.length).map (fun i => (ts.getD i [], ((sizeJ bs i : Nat) : Int), ((bs.getD i []).length : Int))), 0)
  fits : ∀ i, i < ts.length → sizeJ bs i + (bs.getD i []).length ≤ E.length ∧ sizeJ bs i % 4 = 0
  again : joinS ts (piecesE bs E ts.length) = (E, 0)
  least : sizeJ (piecesE bs E ts.length) (piecesE bs E ts.length).length ≤ 1000000
  sum : ∀ i, i < ts.length → ts.getD i [] = headT → 12 ≤ (bs.getD i []).length → sumS E = 2981146554
  keeps : ∀ i m, i < ts.length → m < (bs.getD i []).length → E.getD (sizeJ bs i + m) 0 = (bs.getD i []).getD m 0 ∨ (ts.getD i [] = headT ∧ 12 ≤ (bs.getD i []).length ∧ 8 ≤ m ∧ m < 12)

theorem joined_facts (ts bs : List (List Int)) (h4 : ∀ t ∈ ts, t.length = 4 ∧ AllB t) (hb : ∀ b ∈ bs, AllB b) (hsz : sizeJ bs bs.length ≤ 1000000) (h : (joinS ts bs).2 = 0) : Joined ts bs (joinS ts bs).1 := by
  have hj := joinOf_of ts bs h4 hb hsz h
  obtain ⟨j, hjl, hr⟩ := joinS_ok ts bs hj
  rw [hr]
  have hw := joinL_whole ts bs hj j hjl
  have he := joinEnd_ended ts bs hj j hjl
  have hA := joinSR_b ts bs hj j hjl
  have hp := pieces_of hj hw he hA
  have hwl := hw.len
  have hel := he.len
  have h4s := sizeJ_four bs bs.length
  have hln := hj.len
  have hL : (joinEnd j, (0 : Int)).1.length = sizeJ bs bs.length := hel.trans hwl
  refine ⟨hA, by omega, ⟨hj.len, hj.most⟩, tabs_joined hj hw he, fun i hi => ?_, join_again ts bs hj j hjl hA, ?_, fun i hi ht hl => ?_, fun i m hi hm => ended_body hw he i hi m hm⟩
  · have := sizeJ_in bs (show i < bs.length by omega)
    have := sizeJ_four bs i
    exact ⟨by show _ ≤ (joinEnd j).length; omega, this⟩
  · exact hp.size
  · cases hq : j.hole with
    | none => exact absurd ⟨ht, hl⟩ ((joinL_hole ts bs hj ts.length j (Nat.le_refl _) hjl).2 hq i hi)
    | some q => exact joinEnd_sum ts bs hj j hjl q hq
end Go.Proofs.Ytlpnikolnohcaaa
