/-
  Slices of runes and of whole numbers, as the walks ask them; the clusters, as lists.
-/
import Derived.Test.YtjlencmoobanoaaTell
import Derived.ProofKit
import Derived.Laws.AppendOwn
namespace Go.Proofs.Ytjlencmoobanoaa
open Go Go.RowKit

/-- a value that reads as these runes -/
def RunesZ (w : World) (v : Value) (l : List Int) : Prop :=
  ∃ A c, v = .slice A l.length c ∧ l.length ≤ c ∧ c ≤ 9223372036854775807 ∧ (l ≠ [] → ∃ g off, A = some ⟨g, off, none⟩ ∧ g < w.heap.size ∧ ∀ (j : Nat) (h : j < l.length), w.cell? ⟨g, off + j, none⟩ = some (.int .i32 l[j]))

theorem RunesZ.below {w w' : World} {v : Value} {l : List Int} (h : RunesZ w v l) (hb : Below w.heap.size w w') : RunesZ w' v l := by
  obtain ⟨A, c, e, hc, hc2, hx⟩ := h
  refine ⟨A, c, e, hc, hc2, fun hne => ?_⟩
  obtain ⟨g, off, hA, hg, hcell⟩ := hx hne
  have := hb.size
  exact ⟨g, off, hA, by omega, fun j hj => by rw [hb.cell (by exact hg)]; exact hcell j hj⟩

/-- a row of the call's own that holds these numbers -/
def OwnI (B : Nat) (w : World) (v : Value) (ds : List Nat) : Prop := w.ownsRow B 3 1 v ds.length (ds.map fun d : Nat => Value.int .i64 (d : Int))

theorem OwnI.nil (B : Nat) (w : World) : OwnI B w (.slice none 0 0) [] := World.ownsRow_nil _ _ _ _

/-- a value that reads as these numbers -/
def IntsR (w : World) (v : Value) (l : List Nat) : Prop :=
  ∃ A c, v = .slice A l.length c ∧ l.length ≤ c ∧ c ≤ 9223372036854775807 ∧ (l ≠ [] → ∃ g, A = some ⟨g, 0, none⟩ ∧ g < w.heap.size ∧ ∀ (j : Nat) (h : j < l.length), w.cell? ⟨g, j, none⟩ = some (.int .i64 ((l[j] : Nat) : Int)))

theorem IntsR.below {w w' : World} {v : Value} {l : List Nat} (h : IntsR w v l) (hb : Below w.heap.size w w') : IntsR w' v l := by
  obtain ⟨A, c, e, hc, hc2, hx⟩ := h
  refine ⟨A, c, e, hc, hc2, fun hne => ?_⟩
  obtain ⟨g, hA, hg, hcell⟩ := hx hne
  have := hb.size
  exact ⟨g, hA, by omega, fun j hj => by rw [hb.cell (by exact hg)]; exact hcell j hj⟩

theorem OwnI.read {B : Nat} {w : World} {v : Value} {ds : List Nat} (h : OwnI B w v ds) : IntsR w v ds := by
  have h1 : w.ownsRow B 3 1 v ds.length (ds.map fun d : Nat => Value.int .i64 (d : Int)) := h
  rcases h1.2 with ⟨rfl, h0⟩ | ⟨g, cap, cur, rfl, hb, hg, hc, hm, hs, ht⟩
  · exact ⟨none, 0, by rw [h0], by omega, by omega, fun hne => absurd (List.length_eq_zero_iff.1 h0) hne⟩
  · refine ⟨some ⟨g, 0, none⟩, cap, rfl, hc, by unfold maxLen at hm; omega, fun _ => ⟨g, rfl, ?_, fun j hj => ?_⟩⟩
    · rcases Nat.lt_or_ge g w.heap.size with h' | h'
      · exact h'
      · simp [Array.getElem?_eq_none h'] at hg
    · have := h1.cells (g := g) rfl j (.int .i64 ((ds[j] : Nat) : Int)) (by simp [hj])
      rwa [add_flat, Nat.zero_add] at this

/-! ### classes -/

/-- a character's cluster class -/
def clsN (T : List (Int × Int × Int)) (r : Int) : Nat := (clusterS T r).toNat

def ClsOK (T : List (Int × Int × Int)) : Prop := ∀ r, 0 ≤ clusterS T r ∧ clusterS T r ≤ 13

theorem cls_ok : ClsOK (tableOf Try.f27) := by
  intro r
  have e : clusterS (tableOf Try.f27) r = clusterSb (openB r) (tableOf Try.f27) r := rfl
  rw [e]
  have h : ∀ b : Bool, (if decide (0 ≤ clusterSb b (tableOf Try.f27) r) && decide (clusterSb b (tableOf Try.f27) r ≤ 13) then (1 : Int) else 0) = 1 := by
    intro b
    have ht : TurnsAt (fun r => if decide (0 ≤ clusterSb b (tableOf Try.f27) r) && decide (clusterSb b (tableOf Try.f27) r ≤ 13) then (1 : Int) else 0) (docT (tableOf Try.f27)) := by
      intro r p h
      have := clusterSb_turns b (tableOf Try.f27) r p h
      show (if decide (0 ≤ clusterSb b (tableOf Try.f27) r) && decide (clusterSb b (tableOf Try.f27) r ≤ 13) then (1 : Int) else 0) = (if decide (0 ≤ clusterSb b (tableOf Try.f27) p) && decide (clusterSb b (tableOf Try.f27) p ≤ 13) then (1 : Int) else 0)
      rw [this]
    cases b with
    | true => exact same_all (g := fun _ => 1) ht (TurnsAt.const 1 []) (by kernel_rfl) (by kernel_rfl) r
    | false => exact same_all (g := fun _ => 1) ht (TurnsAt.const 1 []) (by kernel_rfl) (by kernel_rfl) r
  have h' := h (openB r)
  by_cases hb : (decide (0 ≤ clusterSb (openB r) (tableOf Try.f27) r) && decide (clusterSb (openB r) (tableOf Try.f27) r ≤ 13)) = true
  · simpa [Bool.and_eq_true] using hb
  · rw [if_neg hb] at h'; cases h'

theorem cls_lt {T : List (Int × Int × Int)} (h : ClsOK T) (r : Int) : clsN T r < 14 := by
  have := h r; unfold clsN; omega
theorem cls_int {T : List (Int × Int × Int)} (h : ClsOK T) (r : Int) : ((clsN T r : Nat) : Int) = clusterS T r := by
  have := h r; unfold clsN; omega

/-- the table, and what is known of it; a letter in the walks -/
structure TabC (T : List (Int × Int × Int)) : Prop where
  ok : ClsOK T
  code : ∀ r w, Calls Try.prog 18 #[.int .i32 r] w fun e w' => e = .returned (.int .u8 ((clsN T r : Nat) : Int)) ∧ w = w'
  doc : ∀ r, I32 r → ∀ w, Calls Try.prog 14 #[.int .i32 r] w fun e w' => e = .returned (.int .u8 ((clsN T r : Nat) : Int)) ∧ Below w.heap.size w w'

theorem tabC : ∃ T, TabC T := ⟨_, cls_ok, fun r w => by
    rw [cls_int cls_ok, ← cluster_eq]; exact cluster_any r w, fun r hr w => by
    rw [cls_int cls_ok]; exact refCluster_is _ tabClusters r hr w⟩

/-! ### clusters, as lists -/

/-- does a rule tell of these two? -/
def tells (p : PastS) (c : Nat) (r : AK × BK × Bool) : Bool := r.1.says p && r.2.1.says c

/-- are they parted? the first of these rules that tells counts -/
def partR : List (AK × BK × Bool) → PastS → Nat → Bool
  | [], _, _ => true
  | r :: t, p, c => if tells p c r then r.2.2 else partR t p c

def partS (p : PastS) (c : Nat) : Bool := partR ruleL p c

def boundFrom : PastS → List Nat → Nat → List Nat
  | _, [], _ => []
  | p, c :: l, k => (if partS p c then [k] else []) ++ boundFrom (withS p c) l (k + 1)

def past0 : PastS := ⟨0, false, false, false⟩

def boundsL : List Nat → List Nat
  | [] => []
  | c :: l => 0 :: boundFrom (withS past0 c) l 1

theorem boundFrom_len (l : List Nat) : ∀ p k, (boundFrom p l k).length ≤ l.length := by
  induction l with
  | nil => intro p k; exact Nat.le_refl _
  | cons c l ih =>
    intro p k
    rw [boundFrom]
    have := ih (withS p c) (k + 1)
    split <;> simp <;> omega
end Go.Proofs.Ytjlencmoobanoaa
