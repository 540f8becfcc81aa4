/-
  A region that draws its order, in whatever fence of the widest kind: what holds of the world is held while it is walked.
-/
import Derived.Test.YtbdhgjaoojimmaaDoorProg
import Derived.WalkKit
import Derived.KernelRfl
import Derived.OrdersHeld
import Derived.OrdersIn
import Derived.TacticsIn
import Derived.CallsIn
namespace Go.Proofs.YtbdhgjaoojimmaaDoor
open Go

/-- the widest fence, of an activation or of a round -/
def FW (ro : Option Nat) : Fence := { Fence.wide with round := ro }

/-- no defer statement -/
def plainOp (o : Oper) : Bool := match o.op with | .defer _ => false | _ => true

theorem semAt_fw {ro : Option Nat} {ρ : Operand → Value} {o : Oper} (h : plainOp o = true) : o.semAt ro ρ = execOp ρ o :=
  Oper.semAt_eq ro ρ o (fun c hc => by unfold plainOp at h; rw [hc] at h; cases h)

section
variable {P : Program} {ro : Option Nat} {n : Nat} {ops : Array Oper} {Q : Exit → Act → World → Prop} {S : World → Prop}

theorem held_step {i : Nat} {o : Oper} {v : Value} {a : Act} (hp : plainOp o = true) (hi : ops[i]? = some o) (hy : YieldsIf P ops S o v a) {K : Act → World → Prop} {w : World} (hS : S w) (h : K (a.put o.dst v) w) :
    wpOpIn (FW ro) n P ops Q i K a w := by
  unfold wpOpIn
  simp only [hi]
  rcases hy with ⟨hw, hv⟩ | ⟨hw, rfl⟩
  · rw [if_pos hw]
    refine ⟨fun _ _ => trivial, ?_⟩
    rw [show (FW ro).round = ro from rfl, semAt_fw hp, hv w hS]
    exact h
  · rw [if_neg (by rw [hw]; decide)]
    exact ⟨fun _ _ => trivial, h⟩

/-- two operations that lie apart, the second in the first's place -/
theorem held_swap {j : Nat} {oi oj : Oper} {v : Value} (hp : plainOp oj = true) (hj : ops[j]? = some oj) (hap : oi.apart ops oj = true) (hsi : ∀ cs b, oi.op ≠ .select cs b) (hsj : ∀ cs b, oj.op ≠ .select cs b)
    (hQ : ∀ c a w, Q (.panic c) (a.put oi.dst v) w → Q (.panic c) a w) {K : Act → World → Prop} {a : Act} {w : World} (hy : YieldsIf P ops S oi v a) (h : wpOpIn (FW ro) n P ops Q j K (a.put oi.dst v) w) :
    wpOpIn (FW ro) n P ops Q j (fun a' w' => YieldsIf P ops S oi v a' ∧ K (a'.put oi.dst v) w') a w := by
  obtain ⟨h1, h2, h3⟩ := Oper.apart_spec hap
  have same : ∀ u, YieldsIf P ops S oi v (a.put oj.dst u) := fun u => hy.of_same (execOp_put oi hsi a oj.dst u h3) (wanted_put oi a oj.dst u h3)
  unfold wpOpIn at h ⊢
  simp only [hj] at h ⊢
  rw [wanted_put oj a oi.dst v h1] at h
  by_cases hw : Region.wanted oj (yielded ops a.tmps) = true
  · rw [if_pos hw] at h ⊢
    refine ⟨fun _ _ => trivial, ?_⟩
    have h := h.2
    rw [show (FW ro).round = ro from rfl, semAt_fw hp] at h ⊢
    rw [execOp_put oj hsj a oi.dst v h1] at h
    generalize (execOp a.eval oj).run P w = r at h ⊢
    cases r with
    | ok x w' =>
      cases x with
      | value u =>
        show _ ∧ _
        exact ⟨same u, by have h : K _ _ := h; rw [← Act.put_comm a v u h2]; exact h⟩
      | skip =>
        show _ ∧ _
        exact ⟨same _, by have h : K _ _ := h; rw [← Act.put_comm a v undef h2]; exact h⟩
      | defer d =>
        refine ⟨(hy.of_same rfl rfl : YieldsIf P ops S oi v { a with defers := d :: a.defers }).of_same (execOp_put oi hsi _ oj.dst _ h3) (wanted_put oi _ oj.dst _ h3), ?_⟩
        rw [← Act.put_comm _ v undef h2, ← Act.put_defers]
        exact h
      | enter f args =>
        refine ⟨h.1, CallsIn.mono h.2 fun e w'' he => ?_⟩
        cases e with
        | returned u => exact ⟨same u, by rw [← Act.put_comm a v u h2]; exact he⟩
        | panicked c => exact hQ _ _ _ he
        | outgrown => exact he
      | row row args => exact ⟨h.1, RowsIn.mono h.2 fun u w'' he => ⟨same u, by rw [← Act.put_comm a v u h2]; exact he⟩⟩
      | round l f tmps assign body =>
        refine ⟨h.1, RoundIn.mono h.2 fun e w'' he => ?_⟩
        cases e with
        | returned u => exact ⟨same u, by rw [← Act.put_comm a v u h2]; exact he⟩
        | panicked c => exact hQ _ _ _ he
        | outgrown => exact he
      | _ => exact h
    | halt x w' =>
      cases x with
      | panic u => exact hQ _ _ _ h
      | _ => exact h
  · rw [if_neg hw] at h ⊢
    exact ⟨fun _ _ => trivial, same _, by rw [← Act.put_comm a v undef h2]; exact h.2⟩

/-- does it stand behind all others? -/
def isLast (ops : Array Oper) (j : Nat) : Bool :=
  match ops[j]? with
  | some oj => (List.range ops.size).all fun k => k == j || oj.after.any fun e => Region.binds .any e && e.on == k
  | none => false

/-- whichever comes up, what holds of the world being held -/
def wpHeld (ro : Option Nat) (n : Nat) (P : Program) (ops : Array Oper) (Q : Exit → Act → World → Prop) (S : World → Prop) : Nat → Array Bool → Act → World → Prop
  | 0, listed, a, w => Region.ready .any ops listed = [] ∧ Q .normal a w
  | fuel + 1, listed, a, w => (Region.ready .any ops listed = [] → Q .normal a w) ∧
    ∀ i ∈ Region.ready .any ops listed, wpOpIn (FW ro) n P ops Q i (fun a' w' => (isLast ops i = false → S w') ∧ wpHeld ro n P ops Q S fuel (listed.setIfInBounds i true) a' w') a w

theorem wpHeld_any : ∀ (fuel : Nat) (listed : Array Bool) (a : Act) (w : World), wpHeld ro n P ops Q S fuel listed a w → wpAnyIn (FW ro) n P .any ops Q fuel listed a w
  | 0, _, _, _, h => h
  | fuel + 1, _, _, _, h => ⟨h.1, fun i hi => wpOpIn_mono (fun a' w' h' => wpHeld_any fuel _ a' w' h'.2) (h.2 i hi)⟩

theorem wpHeld_done {listed : Array Bool} {a : Act} {w : World} (hr : Region.ready .any ops listed = []) (h : Q .normal a w) : ∀ fuel, wpHeld ro n P ops Q S fuel listed a w
  | 0 => ⟨hr, h⟩
  | _ + 1 => ⟨fun _ => h, by rw [hr]; simp⟩

/-- what yields in every world that is held may be taken first -/
theorem wpHeld_first {i : Nat} {oi : Oper} {v : Value} (hp : ∀ (j : Nat) (o : Oper), ops[j]? = some o → plainOp o = true) (hi : ops[i]? = some oi) (hsel : ∀ (j : Nat) (o : Oper) cs b, ops[j]? = some o → o.op ≠ .select cs b)
    (hQ : ∀ c a w, Q (.panic c) (a.put oi.dst v) w → Q (.panic c) a w) (fuel : Nat) : ∀ (listed : Array Bool) (a : Act) (w : World),
      (∀ j oj, ops[j]? = some oj → j ≠ i → listed.getD j true = false → (∀ e ∈ oj.after, Region.binds .any e = true → e.on ≠ i) → oi.apart ops oj = true) →
      i ∈ Region.ready .any ops listed → YieldsIf P ops S oi v a → S w →
      wpHeld ro n P ops Q S fuel (listed.setIfInBounds i true) (a.put oi.dst v) w → wpHeld ro n P ops Q S (fuel + 1) listed a w := by
  induction fuel with
  | zero =>
    intro listed a w _ hr hy hS H
    refine ⟨fun h => (by rw [h] at hr; cases hr), fun j hj => ?_⟩
    by_cases hji : j = i
    · subst hji; exact held_step (hp _ _ hi) hi hy hS ⟨fun _ => hS, H⟩
    · have := ready_mono hj hji
      rw [H.1] at this
      cases this
  | succ fuel ih =>
    intro listed a w hfree hr hy hS H
    refine ⟨fun h => (by rw [h] at hr; cases hr), fun j hj => ?_⟩
    by_cases hji : j = i
    · subst hji; exact held_step (hp _ _ hi) hi hy hS ⟨fun _ => hS, H⟩
    · have h1 := H.2 j (ready_mono hj hji)
      obtain ⟨hjun, oj, hoj, hall⟩ := mem_ready.1 hj
      have hnot : ∀ e ∈ oj.after, Region.binds .any e = true → e.on ≠ i := by
        intro e he hb heq
        have h2 := hall e he hb
        have h0 := (mem_ready.1 hr).1
        rw [heq] at h2
        rcases Nat.lt_or_ge i listed.size with h' | h'
        · simp [h'] at h0 h2; rw [h0] at h2; cases h2
        · simp [Array.getElem?_eq_none h'] at h2
      have h2 := held_swap (hp _ _ hoj) hoj (hfree j oj hoj hji hjun hnot) (fun cs b => hsel i oi cs b hi) (fun cs b => hsel j oj cs b hoj) hQ hy h1
      have hil : i < ops.size := (Array.getElem?_eq_some_iff.1 hi).1
      have hlast : isLast ops j = false := by
        cases hb : isLast ops j with
        | false => rfl
        | true =>
        exfalso
        unfold isLast at hb
        rw [hoj] at hb
        have h5 := List.all_eq_true.1 hb i (List.mem_range.2 hil)
        rw [Bool.or_eq_true] at h5
        rcases h5 with h5 | h5
        · exact hji (by simpa using (beq_iff_eq.1 h5).symm)
        · obtain ⟨e, he, h6⟩ := Array.any_eq_true'.1 h5
          rw [Bool.and_eq_true] at h6
          exact hnot e he h6.1 (beq_iff_eq.1 h6.2)
      refine wpOpIn_mono (fun a' w' h3 => ⟨fun _ => h3.2.1 hlast, ih (listed.setIfInBounds j true) a' w' ?_ (ready_mono hr (Ne.symm hji)) h3.1 (h3.2.1 hlast) ?_⟩) h2
      · intro k ok hk hki hun hno
        refine hfree k ok hk hki ?_ hno
        by_cases hjk : j = k
        · subst hjk; exact hjun
        · rw [getD_set_ne true hjk] at hun; exact hun
      · rw [Array.setIfInBounds_comm _ _ hji]
        exact h3.2.2

theorem wpHeld_take {i : Nat} {oi : Oper} {v : Value} {fuel : Nat} {listed : Array Bool} {a : Act} {w : World} (hp : ops.all plainOp = true) (hi : ops[i]? = some oi) (hs : Region.noSelect ops = true) (hf : Region.free .any ops listed i = true) (hr : (Region.ready .any ops listed).contains i = true)
    (hQ : ∀ c a w, Q (.panic c) (a.put oi.dst v) w → Q (.panic c) a w) (hy : YieldsIf P ops S oi v a) (hS : S w) (h : wpHeld ro n P ops Q S fuel (listed.setIfInBounds i true) (a.put oi.dst v) w) : wpHeld ro n P ops Q S (fuel + 1) listed a w :=
  wpHeld_first (fun j o hj => by
    obtain ⟨hlt, rfl⟩ := Array.getElem?_eq_some_iff.1 hj
    exact (Array.all_eq_true.1 hp) j hlt) hi (Region.noSelect_spec hs) hQ fuel listed a w (Region.free_spec hi hf) (by simpa using hr) hy hS h

/-- one alone may come up -/
theorem wpHeld_one {i : Nat} {oi : Oper} {fuel : Nat} {listed : Array Bool} {a : Act} {w : World} (hi : ops[i]? = some oi) (hr : Region.ready .any ops listed = [i]) (hw : Region.wanted oi (yielded ops a.tmps) = true)
    (h : oi.wpIn (FW ro) n P a w (fun a' w' => S w' ∧ wpHeld ro n P ops Q S fuel (listed.setIfInBounds i true) a' w') Q) : wpHeld ro n P ops Q S (fuel + 1) listed a w := by
  refine ⟨fun h0 => (by rw [hr] at h0; cases h0), fun j hj => ?_⟩
  rw [hr] at hj
  obtain rfl := List.mem_singleton.1 hj
  refine wpOpIn_mono (K := fun a' w' => S w' ∧ wpHeld ro n P ops Q S fuel (listed.setIfInBounds j true) a' w') (fun a' w' h3 => ⟨fun _ => h3.1, h3.2⟩) ?_
  unfold wpOpIn
  rw [hi]
  show if Region.wanted oi (yielded ops a.tmps) = true then _ else _
  rw [if_pos hw]
  exact h

/-- the last one -/
theorem wpHeld_last {i : Nat} {oi : Oper} {fuel : Nat} {listed : Array Bool} {a : Act} {w : World} (hi : ops[i]? = some oi) (hr : Region.ready .any ops listed = [i]) (hw : Region.wanted oi (yielded ops a.tmps) = true) (hl : isLast ops i = true)
    (h : oi.wpIn (FW ro) n P a w (fun a' w' => wpHeld ro n P ops Q S fuel (listed.setIfInBounds i true) a' w') Q) : wpHeld ro n P ops Q S (fuel + 1) listed a w := by
  refine ⟨fun h0 => (by rw [hr] at h0; cases h0), fun j hj => ?_⟩
  rw [hr] at hj
  obtain rfl := List.mem_singleton.1 hj
  refine wpOpIn_mono (K := fun a' w' => wpHeld ro n P ops Q S fuel (listed.setIfInBounds j true) a' w') (fun a' w' h3 => ⟨fun h0 => (by rw [hl] at h0; cases h0), h3⟩) ?_
  unfold wpOpIn
  rw [hi]
  show if Region.wanted oi (yielded ops a.tmps) = true then _ else _
  rw [if_pos hw]
  exact h

theorem wpHeld_region {id : Nat} {a : Act} {w : World} (hm : P.follows .mixedOrders = true) (h : wpHeld ro n P ops Q S ops.size (Array.replicate ops.size false) a w.drew) : (Code.region id ops true).wpIn (FW ro) n P Q a w :=
  wpIn_region_any hm (wpHeld_any _ _ _ _ h)
end
end Go.Proofs.YtbdhgjaoojimmaaDoor
