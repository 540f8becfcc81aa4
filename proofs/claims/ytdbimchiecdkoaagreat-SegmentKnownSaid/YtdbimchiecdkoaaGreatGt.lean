/-
  A row of one's own, of structs, cut short.
-/
import Derived.Test.YtdbimchiecdkoaaGreatGl
import Derived.Laws.IdiomStrings
namespace Go.Proofs.YtdbimchiecdkoaaGreat
open Go Go.RowKit
set_option linter.unusedVariables false
section
variable {P : Program} {ρ : Operand → Value} {o : Oper} {bs : List Nat} {w0 w W : World} {es : List Ent} {ft : List Nat} {α : Type} {e : Enc α} {A : Option Addr}
def runesL (s : ByteArray) : Nat → Nat → List Int
  | 0, _ => []
  | b + 1, i => if i < s.size then Int.ofNat (Utf8.decode s i).1 :: runesL s b (i + (Utf8.decode s i).2) else []
theorem runesFrom_list (s : ByteArray) : ∀ (b i : Nat) (acc : Array Value), (Conv.runesFrom s b i acc).toList = acc.toList ++ (runesL s b i).map (Value.int .i32)
  | 0, _, acc => by simp [Conv.runesFrom, runesL]
  | b + 1, i, acc => by
    unfold Conv.runesFrom runesL
    by_cases h : i < s.size
    · rw [if_pos h, if_pos h]
      have := runesFrom_list s b (i + (Utf8.decode s i).2) (acc.push (.int .i32 (Int.ofNat (Utf8.decode s i).1)))
      simpa using this
    · rw [if_neg h, if_neg h]
      simp
def runesX (s : ByteArray) : Option (List Int) := if (runesL s s.size 0).length ≤ 1000000000 then some (runesL s s.size 0) else none
theorem st_runes {S D T : Nat} {x : Operand} {s : ByteArray} {l : List Int} (ho : o.op = .convert S D x) (hx : ρ x = .string s) (hS : P.underlying S = some .string) (hD : P.underlying D = some (.slice T)) (hT : P.underlying T = some (.int .i32)) (h : St bs w0 w es) (hl : runesX s = some l) :
    ∃ v w', (execOp ρ o).run P w = .ok (.value v) w' ∧ ∃ A' c', v = .slice A' l.length c' ∧ St bs w0 w' (es ++ [rowE .i32 T A' c' l]) := by
  unfold runesX at hl
  split at hl
  · rename_i hlen
    obtain rfl := Option.some.inj hl
    have hR := runesFrom_list s s.size 0 #[]
    rw [show (#[] : Array Value).toList = [] from rfl, List.nil_append] at hR
    have hsz : (Conv.runesFrom s s.size 0 #[]).size = (runesL s s.size 0).length := by rw [← Array.length_toList, hR, List.length_map]
    have hr := run_runes_of_string (P := P) w S D T s hS hD hT (by rw [hsz]; omega)
    have hge := grownCap_ge w (Conv.runesFrom s s.size 0 #[]).size 0 T
    have hle := grownCap_le_maxLen w (Conv.runesFrom s s.size 0 #[]).size 0 T (by rw [hsz]; unfold maxLen; omega)
    rw [hsz] at hr hge hle
    generalize grownCap w (runesL s s.size 0).length 0 T = cap at hr hge hle
    refine ⟨.slice (some ⟨w.heap.size, 0, none⟩) (runesL s s.size 0).length cap, w.drew.alloc (.cells (Conv.runesFrom s s.size 0 #[] ++ Array.replicate (cap - (runesL s s.size 0).length) (.int .i32 0)) T), ?_, some ⟨w.heap.size, 0, none⟩, cap, rfl, ?_⟩
    · unfold execOp
      rw [ho]
      simp only [hx, Sem.run_bind, hr, Result.andThen_ok, Sem.run_pure]
    · refine h.drew.add ((Below.refl _ w.drew).alloc (Nat.le_refl _) _) _ ?_ (fun k hk => ?_)
      · refine ⟨by simp, .inr ⟨w.heap.size, cap, _, rfl, Nat.zero_le _, heap_alloc_new w.drew _, hge, hle, ?_, ?_⟩⟩
        · simp [hsz]; omega
        · simp [hR]
      · simp [rowE, rowG, Value.ownBlock] at hk
        subst hk
        exact ⟨Nat.le_refl _, heap_more _ _⟩
  · cases hl
end
end Go.Proofs.YtdbimchiecdkoaaGreat
