/-
  A region that draws its order, by what holds of what has been done: one step for each operation, not one way for each order.
-/
import Derived.Test.YtjlencmoobanoaaBase
import Derived.Orders
namespace Go.Proofs.Ytjlencmoobanoaa
open Go Go.RowKit

theorem cell_below {w w' : World} {p : Addr} {v : Value} (h : w.cell? p = some v) (hb : Below w.heap.size w w') : w'.cell? p = some v := by
  rw [hb.cell (World.block_lt_of_cell? w _ h)]; exact h

theorem filter_less {α : Type} (p q : α → Bool) (x : α) (h1 : p x = true) (h2 : q x = false) : ∀ (l : List α), (∀ y ∈ l, q y = true → p y = true) → x ∈ l → (l.filter q).length < (l.filter p).length := by
  intro l
  induction l with
  | nil => intro _ hx; cases hx
  | cons y l ih =>
    intro h hx
    have hle : ∀ m : List α, (∀ z ∈ m, q z = true → p z = true) → (m.filter q).length ≤ (m.filter p).length := by
      intro m
      induction m with
      | nil => intro _; exact Nat.le_refl _
      | cons z m ihm =>
        intro hm
        have := ihm (fun u hu => hm u (by simp [hu]))
        rw [List.filter_cons, List.filter_cons]
        cases hq : q z with
        | true => rw [hm z (by simp) hq]; simp; omega
        | false => cases p z <;> simp <;> omega
    rw [List.filter_cons, List.filter_cons]
    rcases List.mem_cons.1 hx with rfl | hx
    · rw [h1, h2]
      have := hle l (fun z hz => h z (by simp [hz]))
      simp; omega
    · have := ih (fun z hz => h z (by simp [hz])) hx
      cases hq : q y with
      | true => rw [h y (by simp) hq]; simp; omega
      | false => cases p y <;> simp <;> omega

variable {P : Program} {ops : Array Oper} {Q : Exit → Act → World → Prop}

theorem ready_all (hlow : ∀ (i : Nat) o, ops[i]? = some o → ∀ e ∈ o.after, Region.binds .any e = true → e.on < i) (listed : Array Bool) (hr : Region.ready .any ops listed = []) : ∀ i, i < ops.size → listed.getD i false = true ∨ listed.getD i true = true := by
  intro i
  induction i using Nat.strongRecOn with
  | _ i ih =>
    intro hi
    cases hb : listed.getD i true with
    | true => exact .inr rfl
    | false =>
      exfalso
      have hm : i ∈ Region.ready .any ops listed := by
        refine mem_ready.2 ⟨hb, ops[i], by simp [hi], fun e he hbe => ?_⟩
        have hlt := hlow i ops[i] (by simp [hi]) e he hbe
        rcases ih e.on hlt (by omega) with h | h
        · exact h
        · by_cases hs : e.on < listed.size
          · rw [Array.getD_eq_getD_getElem?, Array.getElem?_eq_getElem hs] at h ⊢
            exact h
          · exfalso
            rw [Array.getD_eq_getD_getElem?, Array.getElem?_eq_none (by omega)] at hb
            cases hb
      rw [hr] at hm
      cases hm

theorem wpAny_inv (I : Array Bool → Act → World → Prop)
    (hlow : ∀ (i : Nat) o, ops[i]? = some o → ∀ e ∈ o.after, Region.binds .any e = true → e.on < i)
    (hstep : ∀ listed i a w, listed.size = ops.size → i ∈ Region.ready .any ops listed → I listed a w → wpOp P ops Q i (fun a' w' => I (listed.setIfInBounds i true) a' w') a w)
    (hend : ∀ listed a w, listed.size = ops.size → (∀ i, i < ops.size → listed.getD i false = true) → I listed a w → Q .normal a w) :
    ∀ (fuel : Nat) (listed : Array Bool) (a : Act) (w : World), listed.size = ops.size → ((List.range ops.size).filter fun i => !listed.getD i true).length ≤ fuel → I listed a w → wpAny P .any ops Q fuel listed a w := by
  have hall : ∀ listed : Array Bool, listed.size = ops.size → Region.ready .any ops listed = [] → ∀ i, i < ops.size → listed.getD i false = true := by
    intro listed hs hr i hi
    rcases ready_all hlow listed hr i hi with h | h
    · exact h
    · have hi' : i < listed.size := by omega
      rw [Array.getD_eq_getD_getElem?, Array.getElem?_eq_getElem hi'] at h ⊢
      exact h
  intro fuel
  induction fuel with
  | zero =>
    intro listed a w hs hc hI
    have hnil : Region.ready .any ops listed = [] := by
      cases hr : Region.ready .any ops listed with
      | nil => rfl
      | cons i rs =>
        have hm : i ∈ Region.ready .any ops listed := by rw [hr]; simp
        obtain ⟨h1, o, h2, _⟩ := mem_ready.1 hm
        have hi : i < ops.size := (Array.getElem?_eq_some_iff.1 h2).1
        have : i ∈ (List.range ops.size).filter fun i => !listed.getD i true := List.mem_filter.2 ⟨List.mem_range.2 hi, by rw [h1]; rfl⟩
        have := List.length_pos_of_mem this
        omega
    exact ⟨hnil, hend listed a w hs (hall listed hs hnil) hI⟩
  | succ fuel ih =>
    intro listed a w hs hc hI
    refine ⟨fun hr => hend listed a w hs (hall listed hs hr) hI, fun i hi => ?_⟩
    refine wpOp_mono (fun a' w' h => ih _ a' w' (by simpa using hs) ?_ h) (hstep listed i a w hs hi hI)
    obtain ⟨h1, o, h2, _⟩ := mem_ready.1 hi
    have hlt : i < ops.size := (Array.getElem?_eq_some_iff.1 h2).1
    have := filter_less (fun i => !listed.getD i true) (fun j => !(listed.setIfInBounds i true).getD j true) i (by rw [h1]; rfl) (by
      have hi' : i < listed.size := by omega
      simp [Array.getD_eq_getD_getElem?, hi']) (List.range ops.size) (by
      intro y _ hy
      by_cases hyi : i = y
      · subst hyi
        have hi' : i < listed.size := by omega
        simp [Array.getD_eq_getD_getElem?, hi'] at hy
      · rwa [getD_set_ne _ hyi] at hy) (List.mem_range.2 hlt)
    omega

theorem wp_region_inv {id : Nat} {a : Act} {w : World} (I : Array Bool → Act → World → Prop) (hm : P.follows .mixedOrders = true)
    (hlow : ∀ (i : Nat) o, ops[i]? = some o → ∀ e ∈ o.after, Region.binds .any e = true → e.on < i)
    (h0 : I (Array.replicate ops.size false) a w.drew)
    (hstep : ∀ listed i a w, listed.size = ops.size → i ∈ Region.ready .any ops listed → I listed a w → wpOp P ops Q i (fun a' w' => I (listed.setIfInBounds i true) a' w') a w)
    (hend : ∀ listed a w, listed.size = ops.size → (∀ i, i < ops.size → listed.getD i false = true) → I listed a w → Q .normal a w) : (Code.region id ops true).wp P Q a w :=
  wp_region_any hm (wpAny_inv I hlow hstep hend ops.size _ a _ (by simp) (by
    have := List.length_filter_le (fun i => !(Array.replicate ops.size false).getD i true) (List.range ops.size)
    simpa using this) h0)

theorem wpOp_plain {i : Nat} {o : Oper} {K : Act → World → Prop} {a : Act} {w : World} (hi : ops[i]? = some o) (hg : o.guard = none) (h : o.wp P a w K Q) : wpOp P ops Q i K a w := by
  unfold wpOp
  rw [hi]
  show if Region.wanted o (yielded ops a.tmps) = true then o.wp P a w K Q ∨ (o.asks P a w ∧ LetsOut Q) else K (a.put o.dst undef) w
  rw [if_pos (by simp [Region.wanted, hg])]
  exact .inl h
end Go.Proofs.Ytjlencmoobanoaa
