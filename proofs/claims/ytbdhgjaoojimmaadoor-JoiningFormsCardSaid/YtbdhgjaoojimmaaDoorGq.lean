/-
  Two that turn the world, both ready, in a region that draws.
-/
import Derived.Test.YtbdhgjaoojimmaaDoorGp
namespace Go.Proofs.YtbdhgjaoojimmaaDoor
open Go Go.RowKit
set_option linter.unusedVariables false

theorem ex_imp {X : Value → World → Prop} {R R' : Value → World → Prop} (h : ∃ v w', X v w' ∧ R v w') (hi : ∀ v w', R v w' → R' v w') : ∃ v w', X v w' ∧ R' v w' := by
  obtain ⟨v, w', h1, h2⟩ := h
  exact ⟨v, w', h1, hi v w' h2⟩

theorem run_rem {P : Program} {w : World} {ρ : Operand → Value} {o : Oper} {k : IntKind} {op : BinOp} {T T' : Nat} {x y : Operand} {a b : Int} (ho : o.op = .binOp op T x y T') (hx : ρ x = .int k a) (hy : ρ y = .int k b) (hop : op = .rem) (hb : ¬ b = 0) :
    (execOp ρ o).run P w = .ok (.value (.int k (a.tmod b))) w := by
  subst hop
  unfold execOp
  rw [ho]
  simp [hx, hy, binOp, Op.intDiv, hb, eqGuard]

section
variable {P : Program} {ro : Option Nat} {n : Nat} {ops : Array Oper} {Q : Exit → Act → World → Prop} {a : Act} {w : World} {S : World → Prop} {fuel : Nat} {listed : Array Bool}

theorem wpHeld_two {i j : Nat} {oi oj : Oper} (hi : ops[i]? = some oi) (hj : ops[j]? = some oj) (hr : Region.ready .any ops listed = [i, j]) (hwi : Region.wanted oi (yielded ops a.tmps) = true) (hwj : Region.wanted oj (yielded ops a.tmps) = true)
    (h1 : oi.wpIn (FW ro) n P a w (fun a' w' => S w' ∧ wpHeld ro n P ops Q S fuel (listed.setIfInBounds i true) a' w') Q) (h2 : oj.wpIn (FW ro) n P a w (fun a' w' => S w' ∧ wpHeld ro n P ops Q S fuel (listed.setIfInBounds j true) a' w') Q) : wpHeld ro n P ops Q S (fuel + 1) listed a w := by
  refine ⟨fun h0 => (by rw [hr] at h0; cases h0), fun k hk => ?_⟩
  rw [hr] at hk
  refine wpOpIn_mono (K := fun a' w' => S w' ∧ wpHeld ro n P ops Q S fuel (listed.setIfInBounds k true) a' w') (fun a' w' h3 => ⟨fun _ => h3.1, h3.2⟩) ?_
  unfold wpOpIn
  rcases List.mem_cons.1 hk with rfl | hk
  · rw [hi]
    show if Region.wanted oi (yielded ops a.tmps) = true then _ else _
    rw [if_pos hwi]
    exact h1
  · obtain rfl := List.mem_singleton.1 hk
    rw [hj]
    show if Region.wanted oj (yielded ops a.tmps) = true then _ else _
    rw [if_pos hwj]
    exact h2

theorem gdR2 (i j : Nat) (oi oj : Oper) {Ri Rj : Value → World → Prop} (R : Value → Value → World → Prop) (hi : ops[i]? = some oi) (hj : ops[j]? = some oj)
    (hxi : ∃ v w', (execOp a.eval oi).run P w = .ok (.value v) w' ∧ Ri v w') (hxj : ∃ v w', (execOp a.eval oj).run P w = .ok (.value v) w' ∧ Rj v w')
    (hij : ∀ vi w1, Ri vi w1 → S w1 ∧ ∃ vj w2, (execOp (a.put oi.dst vi).eval oj).run P w1 = .ok (.value vj) w2 ∧ R vi vj w2)
    (hji : ∀ vj w1, Rj vj w1 → S w1 ∧ ∃ vi w2, (execOp (a.put oj.dst vj).eval oi).run P w1 = .ok (.value vi) w2 ∧ R vi vj w2)
    (hp : ∀ vi vj, (a.put oj.dst vj).put oi.dst vi = (a.put oi.dst vi).put oj.dst vj)
    (hl : (listed.setIfInBounds j true).setIfInBounds i true = (listed.setIfInBounds i true).setIfInBounds j true)
    (hw1 : ∀ vi, Region.wanted oj (yielded ops (a.put oi.dst vi).tmps) = true) (hw2 : ∀ vj, Region.wanted oi (yielded ops (a.put oj.dst vj).tmps) = true)
    (h : ∀ vi vj w', R vi vj w' → S w' ∧ WD ro n P ops Q S fuel ((listed.setIfInBounds i true).setIfInBounds j true) ((a.put oi.dst vi).put oj.dst vj) w')
    (hc : ((plainOp oi && plainOp oj) && ((decide (Region.ready .any ops listed = [i, j]) && (decide (Region.ready .any ops (listed.setIfInBounds i true) = [j]) && decide (Region.ready .any ops (listed.setIfInBounds j true) = [i]))) && (Region.wanted oi (yielded ops a.tmps) && Region.wanted oj (yielded ops a.tmps)))) = true := by as_aux_lemma => kernel_rfl) :
    WD ro n P ops Q S (fuel + 2) listed a w := by
  simp only [Bool.and_eq_true, decide_eq_true_eq] at hc
  obtain ⟨⟨p1, p2⟩, ⟨r0, r1, r2⟩, q1, q2⟩ := hc
  obtain ⟨vi, wi, e1, h1⟩ := hxi
  obtain ⟨vj, wj, e2, h2⟩ := hxj
  refine ⟨wpHeld_two hi hj r0 q1 q2 ⟨fun _ _ => trivial, ?_⟩ ⟨fun _ _ => trivial, ?_⟩⟩
  · rw [show (FW ro).round = ro from rfl, semAt_fw p1, e1]
    obtain ⟨s1, hx⟩ := hij _ _ h1
    refine ⟨s1, (gdR j oj hj hx (fun v w' hR => h vi v w' hR) ?_).out⟩
    simp only [Bool.and_eq_true, decide_eq_true_eq]
    exact ⟨p2, r1, hw1 vi⟩
  · rw [show (FW ro).round = ro from rfl, semAt_fw p2, e2]
    obtain ⟨s1, hx⟩ := hji _ _ h2
    refine ⟨s1, (gdR i oi hi hx (fun v w' hR => ?_) ?_).out⟩
    · rw [hp, hl]; exact h v vj w' hR
    · simp only [Bool.and_eq_true, decide_eq_true_eq]
      exact ⟨p1, r2, hw2 vj⟩

/-- one that is ready, taken -/
structure WD1 (ro : Option Nat) (n : Nat) (P : Program) (ops : Array Oper) (Q : Exit → Act → World → Prop) (S : World → Prop) (fuel : Nat) (listed : Array Bool) (i : Nat) (oi : Oper) (a : Act) (w : World) : Prop where
  out : oi.uponIn (FW ro) n P a (fun a' w' => S w' ∧ wpHeld ro n P ops Q S fuel (listed.setIfInBounds i true) a' w') Q ((execOp a.eval oi).run P w)

/-- two are ready: either may be first -/
theorem gd_fork2 (i j : Nat) (oi oj : Oper) (hi : ops[i]? = some oi) (hj : ops[j]? = some oj) (h1 : WD1 ro n P ops Q S fuel listed i oi a w) (h2 : WD1 ro n P ops Q S fuel listed j oj a w)
    (hc : ((plainOp oi && plainOp oj) && (decide (Region.ready .any ops listed = [i, j]) && (Region.wanted oi (yielded ops a.tmps) && Region.wanted oj (yielded ops a.tmps)))) = true := by as_aux_lemma => kernel_rfl) :
    WD ro n P ops Q S (fuel + 1) listed a w := by
  simp only [Bool.and_eq_true, decide_eq_true_eq] at hc
  obtain ⟨⟨p1, p2⟩, r0, q1, q2⟩ := hc
  refine ⟨wpHeld_two hi hj r0 q1 q2 ⟨fun _ _ => trivial, ?_⟩ ⟨fun _ _ => trivial, ?_⟩⟩
  · rw [show (FW ro).round = ro from rfl, semAt_fw p1]
    exact h1.out
  · rw [show (FW ro).round = ro from rfl, semAt_fw p2]
    exact h2.out

theorem gfR (i : Nat) (oi : Oper) {R : Value → World → Prop} (hi : ops[i]? = some oi) (hx : ∃ v w', (execOp a.eval oi).run P w = .ok (.value v) w' ∧ R v w')
    (h : ∀ v w', R v w' → S w' ∧ WD ro n P ops Q S fuel (listed.setIfInBounds i true) (a.put oi.dst v) w') : WD1 ro n P ops Q S fuel listed i oi a w := by
  obtain ⟨v, w', h1, h2⟩ := hx
  refine ⟨?_⟩
  rw [h1]
  exact ⟨(h v w' h2).1, (h v w' h2).2.out⟩

theorem gfS (i : Nat) (oi : Oper) {R : World → Prop} (hi : ops[i]? = some oi) (hx : ∃ w', (execOp a.eval oi).run P w = .ok .skip w' ∧ R w')
    (h : ∀ w', R w' → S w' ∧ WD ro n P ops Q S fuel (listed.setIfInBounds i true) (a.put oi.dst undef) w') : WD1 ro n P ops Q S fuel listed i oi a w := by
  obtain ⟨w', h1, h2⟩ := hx
  refine ⟨?_⟩
  rw [h1]
  exact ⟨(h w' h2).1, (h w' h2).2.out⟩

theorem gfC (i : Nat) (oi : Oper) {f : Nat} {args : Array Value} (R : Value → World → Prop) (hi : ops[i]? = some oi) (hx : (execOp a.eval oi).run P w = .ok (.enter f args) w)
    (hcall : Calls P f args w fun e w' => ∃ v, e = .returned v ∧ R v w')
    (h : ∀ v w', R v w' → S w' ∧ WD ro n P ops Q S fuel (listed.setIfInBounds i true) (a.put oi.dst v) w') : WD1 ro n P ops Q S fuel listed i oi a w := by
  refine ⟨?_⟩
  rw [hx]
  refine ⟨fun hd => (by cases hd), calls_in (hcall.mono ?_)⟩
  rintro e w' ⟨v, rfl, hR⟩
  exact ⟨(h v w' hR).1, (h v w' hR).2.out⟩

theorem gd_fork3 (i j k : Nat) (oi oj ok : Oper) (hi : ops[i]? = some oi) (hj : ops[j]? = some oj) (hk : ops[k]? = some ok) (h1 : WD1 ro n P ops Q S fuel listed i oi a w) (h2 : WD1 ro n P ops Q S fuel listed j oj a w) (h3 : WD1 ro n P ops Q S fuel listed k ok a w)
    (hc : (((plainOp oi && plainOp oj) && plainOp ok) && (decide (Region.ready .any ops listed = [i, j, k]) && ((Region.wanted oi (yielded ops a.tmps) && Region.wanted oj (yielded ops a.tmps)) && Region.wanted ok (yielded ops a.tmps)))) = true := by as_aux_lemma => kernel_rfl) :
    WD ro n P ops Q S (fuel + 1) listed a w := by
  simp only [Bool.and_eq_true, decide_eq_true_eq] at hc
  obtain ⟨⟨⟨p1, p2⟩, p3⟩, r0, ⟨q1, q2⟩, q3⟩ := hc
  refine ⟨⟨fun h0 => (by rw [r0] at h0; cases h0), fun z hz => ?_⟩⟩
  rw [r0] at hz
  refine wpOpIn_mono (K := fun a' w' => S w' ∧ wpHeld ro n P ops Q S fuel (listed.setIfInBounds z true) a' w') (fun a' w' h3 => ⟨fun _ => h3.1, h3.2⟩) ?_
  unfold wpOpIn
  rcases List.mem_cons.1 hz with rfl | hz
  · rw [hi]
    show if Region.wanted oi (yielded ops a.tmps) = true then _ else _
    rw [if_pos q1]
    refine ⟨fun _ _ => trivial, ?_⟩
    rw [show (FW ro).round = ro from rfl, semAt_fw p1]
    exact h1.out
  rcases List.mem_cons.1 hz with rfl | hz
  · rw [hj]
    show if Region.wanted oj (yielded ops a.tmps) = true then _ else _
    rw [if_pos q2]
    refine ⟨fun _ _ => trivial, ?_⟩
    rw [show (FW ro).round = ro from rfl, semAt_fw p2]
    exact h2.out
  · obtain rfl := List.mem_singleton.1 hz
    rw [hk]
    show if Region.wanted ok (yielded ops a.tmps) = true then _ else _
    rw [if_pos q3]
    refine ⟨fun _ _ => trivial, ?_⟩
    rw [show (FW ro).round = ro from rfl, semAt_fw p3]
    exact h3.out

/-- what comes behind a region, told once for all its orders -/
theorem gd_share {X : Type} (A : X → Act) (R : X → World → Prop) (hK : ∀ x w, R x w → WQ Q .normal (A x) w) (h : (∀ x w, R x w → WQ Q .normal (A x) w) → WD ro n P ops Q S fuel listed a w) : WD ro n P ops Q S fuel listed a w := h hK

/-- .. for what comes behind some of them -/
theorem gd_shareD {X : Type} (A : X → Act) (R : X → World → Prop) (fuel2 : Nat) (listed2 : Array Bool) (hK : ∀ x w, R x w → WD ro n P ops Q S fuel2 listed2 (A x) w) (h : (∀ x w, R x w → WD ro n P ops Q S fuel2 listed2 (A x) w) → WD ro n P ops Q S fuel listed a w) : WD ro n P ops Q S fuel listed a w := h hK
theorem gd_meetD {a' : Act} {listed2 : Array Bool} (hl : listed = listed2) (h : a = a') (hq : WD ro n P ops Q S fuel listed2 a' w) : WD ro n P ops Q S fuel listed a w := by rw [hl, h]; exact hq

theorem gd_meet {a' : Act} (hc : Region.ready .any ops listed = []) (h : a = a') (hq : WQ Q .normal a' w) : WD ro n P ops Q S fuel listed a w := gd_done hc (h ▸ hq)
end
end Go.Proofs.YtbdhgjaoojimmaaDoor
