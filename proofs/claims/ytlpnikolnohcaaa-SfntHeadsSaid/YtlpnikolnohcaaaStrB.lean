/-
  Bytes as a string, by lists.
-/
import Derived.Test.YtlpnikolnohcaaaOr
import Derived.Laws.BytesArg
namespace Go.Proofs.Ytlpnikolnohcaaa
open Go Go.RowKit

/-- lists of bytes are told apart by their strings -/
theorem strOfNums_inj {a b : List Int} (ha : AllB a) (hb : AllB b) (h : strOfNums a = strOfNums b) : a = b := by
  have hd := congrArg (fun s : ByteArray => s.data.toList) h
  simp only [strOfNums_data] at hd
  have back : ∀ l : List Int, AllB l → (l.map fun n => UInt8.ofNat n.toNat).map (fun u => ((u.toNat : Nat) : Int)) = l := fun l hl => by
    rw [List.map_map]
    conv => rhs; rw [← List.map_id l]
    apply List.map_congr_left
    intro x hx
    have := hl x hx
    simp
    omega
  have h1 := congrArg (List.map (fun u : UInt8 => ((u.toNat : Nat) : Int))) hd
  rwa [back a ha, back b hb] at h1

/-- string(b[:n]) of bytes that are there -/
theorem run_str_take {w : World} {g off N c : Nat} {l : List Int} (hcell : ∀ (j : Nat) (h : j < l.length), w.cell? ⟨g, off + j, none⟩ = some (.int .u8 l[j])) (n : Nat) (hn : n ≤ l.length) (hN : N = n) :
    (convert 22 9 (.slice (some ⟨g, off, none⟩) N c)).run Try.prog w = .ok (.string (strOfNums (l.take n))) w := by
  subst hN
  refine run_convert_bytes_arg (P := Try.prog) w 22 5 Try.underlying22 Try.underlying5 g off N c (l.take N) (by rw [List.length_take]; omega) (fun i hi => ?_) 9 Try.underlying9
  rw [hcell i (by omega)]
  congr 2
  rw [List.getD_eq_getElem?_getD, List.getElem?_take_of_lt hi, List.getElem?_eq_getElem (by omega)]; rfl

/-- string(v) of bytes -/
theorem run_str_whole {w : World} {v : Value} {l : List Int} (h : NumZ .u8 w v l) : (convert 22 9 v).run Try.prog w = .ok (.string (strOfNums l)) w := by
  obtain ⟨A, c, rfl, hc, hm, hx⟩ := h
  by_cases hl : l = []
  · subst hl
    cases A with
    | none => rw [run_convert_bytes_nil (P := Try.prog) w 22 5 Try.underlying22 Try.underlying5 _ _ 9 Try.underlying9]; rfl
    | some a =>
      rw [run_convert_bytes_string (P := Try.prog) w 22 9 5 _ _ c Try.underlying22 Try.underlying5 Try.underlying9]
      rfl
  · obtain ⟨g, off, rfl, _, hcell⟩ := hx hl
    have := run_str_take (N := l.length) (c := c) hcell l.length (Nat.le_refl _) rfl
    rwa [List.take_length] at this

/-- two strings of bytes compared -/
theorem strOfNums_ne {a b : List Int} (ha : AllB a) (hb : AllB b) : (strOfNums a = strOfNums b) = (a = b) := propext ⟨strOfNums_inj ha hb, fun h => by rw [h]⟩
end Go.Proofs.Ytlpnikolnohcaaa
