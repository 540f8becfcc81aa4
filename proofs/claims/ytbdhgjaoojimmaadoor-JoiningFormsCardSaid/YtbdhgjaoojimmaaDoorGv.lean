/-
  A region that draws, in two parts: what is held ahead of its store k, what is held behind it.
-/
import Derived.Test.YtbdhgjaoojimmaaDoorGu
namespace Go.Proofs.YtbdhgjaoojimmaaDoor
open Go
set_option linter.unusedVariables false
/-- does k stand behind i? -/
def depK (ops : Array Oper) (k i : Nat) : Bool := match ops[k]? with
  | some ok => ok.after.any fun e => Region.binds .any e && e.on == i
  | none => false
section
variable {P : Program} {ro : Option Nat} {n : Nat} {ops : Array Oper} {Q : Exit → Act → World → Prop} {k : Nat} {SA SB : World → Prop}

/-- what holds when some operations have been done -/
def KS (k : Nat) (SA SB : World → Prop) (l : Array Bool) (w : World) : Prop := (l.getD k true = true → SB w) ∧ (l.getD k true = false → SA w)

def wpK (ro : Option Nat) (n : Nat) (P : Program) (ops : Array Oper) (Q : Exit → Act → World → Prop) (k : Nat) (SA SB : World → Prop) : Nat → Array Bool → Act → World → Prop
  | 0, listed, a, w => Region.ready .any ops listed = [] ∧ Q .normal a w
  | fuel + 1, listed, a, w => (Region.ready .any ops listed = [] → Q .normal a w) ∧
    ∀ i ∈ Region.ready .any ops listed, wpOpIn (FW ro) n P ops Q i (fun a' w' => (isLast ops i = false → KS k SA SB (listed.setIfInBounds i true) w') ∧ wpK ro n P ops Q k SA SB fuel (listed.setIfInBounds i true) a' w') a w

theorem wpK_any : ∀ (fuel : Nat) (listed : Array Bool) (a : Act) (w : World), wpK ro n P ops Q k SA SB fuel listed a w → wpAnyIn (FW ro) n P .any ops Q fuel listed a w
  | 0, _, _, _, h => h
  | fuel + 1, _, _, _, h => ⟨h.1, fun i hi => wpOpIn_mono (fun a' w' h' => wpK_any fuel _ a' w' h'.2) (h.2 i hi)⟩

theorem getD_set_true {l : Array Bool} {i k : Nat} (h : l.getD k true = true) : (l.setIfInBounds i true).getD k true = true := by
  by_cases hik : i = k
  · subst hik
    by_cases hl : i < l.size <;> simp [Array.getD, hl]
  · rw [getD_set_ne true hik]; exact h

theorem wpK_to : ∀ (fuel : Nat) (listed : Array Bool) (a : Act) (w : World), listed.getD k true = true → wpHeld ro n P ops Q SB fuel listed a w → wpK ro n P ops Q k SA SB fuel listed a w
  | 0, _, _, _, _, h => h
  | fuel + 1, listed, _, _, hk, h => ⟨h.1, fun i hi => wpOpIn_mono (fun a' w' h' => by
      have hk' := getD_set_true (i := i) hk
      exact ⟨fun hl => ⟨fun _ => h'.1 hl, fun hf => (by rw [hk'] at hf; cases hf)⟩, wpK_to fuel _ a' w' hk' h'.2⟩) (h.2 i hi)⟩

/-- what yields may be taken first: D: k stands behind it -/
theorem wpK_first (D : Bool) {i : Nat} {oi : Oper} {v : Value} (hp : ∀ (j : Nat) (o : Oper), ops[j]? = some o → plainOp o = true) (hi : ops[i]? = some oi) (hsel : ∀ (j : Nat) (o : Oper) cs b, ops[j]? = some o → o.op ≠ .select cs b)
    (hQ : ∀ c a w, Q (.panic c) (a.put oi.dst v) w → Q (.panic c) a w) (hik : i ≠ k) (hD : D = true → depK ops k i = true) (fuel : Nat) : ∀ (listed : Array Bool) (a : Act) (w : World),
      (∀ j oj, ops[j]? = some oj → j ≠ i → listed.getD j true = false → (∀ e ∈ oj.after, Region.binds .any e = true → e.on ≠ i) → oi.apart ops oj = true) →
      i ∈ Region.ready .any ops listed → YieldsIf P ops (fun w => D = true → SA w) oi v a → KS k SA SB listed w → (D = true → listed.getD k true = false) →
      wpK ro n P ops Q k SA SB fuel (listed.setIfInBounds i true) (a.put oi.dst v) w → wpK ro n P ops Q k SA SB (fuel + 1) listed a w := by
  have ks : ∀ {l : Array Bool} {w : World}, KS k SA SB (l.setIfInBounds i true) w ↔ KS k SA SB l w := by
    intro l w
    unfold KS
    rw [getD_set_ne true hik]
  induction fuel with
  | zero =>
    intro listed a w _ hr hy hS hDl H
    refine ⟨fun h => (by rw [h] at hr; cases hr), fun j hj => ?_⟩
    by_cases hji : j = i
    · subst hji; exact held_step (hp _ _ hi) hi hy (fun hd => hS.2 (hDl hd)) ⟨fun _ => ks.2 hS, H⟩
    · have := ready_mono hj hji
      rw [H.1] at this
      cases this
  | succ fuel ih =>
    intro listed a w hfree hr hy hS hDl H
    refine ⟨fun h => (by rw [h] at hr; cases hr), fun j hj => ?_⟩
    by_cases hji : j = i
    · subst hji; exact held_step (hp _ _ hi) hi hy (fun hd => hS.2 (hDl hd)) ⟨fun _ => ks.2 hS, H⟩
    · have h1 := H.2 j (ready_mono hj hji)
      obtain ⟨hjun, oj, hoj, hall⟩ := mem_ready.1 hj
      have hnot : ∀ e ∈ oj.after, Region.binds .any e = true → e.on ≠ i := by
        intro e he hb heq
        have h2 := hall e he hb
        have h0 := (mem_ready.1 hr).1
        rw [heq] at h2
        rcases Nat.lt_or_ge i listed.size with h' | h'
        · simp [h'] at h0 h2; rw [h0] at h2; cases h2
        · simp [Array.getElem?_eq_none h'] at h2
      have hjk : D = true → j ≠ k := by
        intro hd he
        have h3 := hD hd
        subst he
        unfold depK at h3
        rw [hoj] at h3
        obtain ⟨e, he, h6⟩ := Array.any_eq_true'.1 h3
        rw [Bool.and_eq_true] at h6
        exact hnot e he h6.1 (beq_iff_eq.1 h6.2)
      have h2 := held_swap (hp _ _ hoj) hoj (hfree j oj hoj hji hjun hnot) (fun cs b => hsel i oi cs b hi) (fun cs b => hsel j oj cs b hoj) hQ hy h1
      have hil : i < ops.size := (Array.getElem?_eq_some_iff.1 hi).1
      have hlast : isLast ops j = false := by
        cases hb : isLast ops j with
        | false => rfl
        | true =>
        exfalso
        unfold isLast at hb
        rw [hoj] at hb
        have h5 := List.all_eq_true.1 hb i (List.mem_range.2 hil)
        rw [Bool.or_eq_true] at h5
        rcases h5 with h5 | h5
        · exact hji (by simpa using (beq_iff_eq.1 h5).symm)
        · obtain ⟨e, he, h6⟩ := Array.any_eq_true'.1 h5
          rw [Bool.and_eq_true] at h6
          exact hnot e he h6.1 (beq_iff_eq.1 h6.2)
      refine wpOpIn_mono (fun a' w' h3 => ?_) h2
      have h4 : KS k SA SB (listed.setIfInBounds j true) w' := by
        have := h3.2.1 hlast
        rw [Array.setIfInBounds_comm _ _ (Ne.symm hji)] at this
        exact ks.1 this
      refine ⟨fun _ => h4, ih (listed.setIfInBounds j true) a' w' ?_ (ready_mono hr (Ne.symm hji)) h3.1 h4 ?_ ?_⟩
      · intro q oq hq hqi hun hno
        refine hfree q oq hq hqi ?_ hno
        by_cases hjq : j = q
        · subst hjq; exact hjun
        · rw [getD_set_ne true hjq] at hun; exact hun
      · intro hd
        rw [getD_set_ne true (hjk hd)]
        exact hDl hd
      · rw [Array.setIfInBounds_comm _ _ hji]
        exact h3.2.2

theorem wpK_take (D : Bool) {i : Nat} {oi : Oper} {v : Value} {fuel : Nat} {listed : Array Bool} {a : Act} {w : World} (hp : ops.all plainOp = true) (hi : ops[i]? = some oi) (hs : Region.noSelect ops = true) (hf : Region.free .any ops listed i = true) (hr : (Region.ready .any ops listed).contains i = true)
    (hQ : ∀ c a w, Q (.panic c) (a.put oi.dst v) w → Q (.panic c) a w) (hik : i ≠ k) (hD : D = true → depK ops k i = true) (hl : listed.getD k true = false) (hy : YieldsIf P ops (fun w => D = true → SA w) oi v a) (hS : SA w)
    (h : wpK ro n P ops Q k SA SB fuel (listed.setIfInBounds i true) (a.put oi.dst v) w) : wpK ro n P ops Q k SA SB (fuel + 1) listed a w :=
  wpK_first D (fun j o hj => by
    obtain ⟨hlt, rfl⟩ := Array.getElem?_eq_some_iff.1 hj
    exact (Array.all_eq_true.1 hp) j hlt) hi (Region.noSelect_spec hs) hQ hik hD fuel listed a w (Region.free_spec hi hf) (by simpa using hr) hy ⟨fun h0 => (by rw [hl] at h0; cases h0), fun _ => hS⟩ (fun _ => hl) h

/-- one alone may come up -/
theorem wpK_one {i : Nat} {oi : Oper} {fuel : Nat} {listed : Array Bool} {a : Act} {w : World} (hi : ops[i]? = some oi) (hr : Region.ready .any ops listed = [i]) (hw : Region.wanted oi (yielded ops a.tmps) = true)
    (h : oi.wpIn (FW ro) n P a w (fun a' w' => KS k SA SB (listed.setIfInBounds i true) w' ∧ wpK ro n P ops Q k SA SB fuel (listed.setIfInBounds i true) a' w') Q) : wpK ro n P ops Q k SA SB (fuel + 1) listed a w := by
  refine ⟨fun h0 => (by rw [hr] at h0; cases h0), fun j hj => ?_⟩
  rw [hr] at hj
  obtain rfl := List.mem_singleton.1 hj
  refine wpOpIn_mono (K := fun a' w' => KS k SA SB (listed.setIfInBounds j true) w' ∧ wpK ro n P ops Q k SA SB fuel (listed.setIfInBounds j true) a' w') (fun a' w' h3 => ⟨fun _ => h3.1, h3.2⟩) ?_
  unfold wpOpIn
  rw [hi]
  show if Region.wanted oi (yielded ops a.tmps) = true then _ else _
  rw [if_pos hw]
  exact h
end

/-- a region that draws, in two parts -/
structure WDK (ro : Option Nat) (n : Nat) (P : Program) (ops : Array Oper) (Q : Exit → Act → World → Prop) (k : Nat) (SA SB : World → Prop) (fuel : Nat) (listed : Array Bool) (a : Act) (w : World) : Prop where
  out : wpK ro n P ops Q k SA SB fuel listed a w
section
variable {P : Program} {ro : Option Nat} {n : Nat} {ops : Array Oper} {Q : Exit → Act → World → Prop} {k : Nat} {SA SB : World → Prop} {fuel : Nat} {listed : Array Bool} {a : Act} {w : World}

theorem gk_start {id : Nat} {l : List Oper} (k : Nat) (SA SB : World → Prop) (fuel : Nat) (l0 : Array Bool) (hf : (l.toArray.size, Array.replicate l.toArray.size false) = (fuel, l0)) (hm : P.follows .mixedOrders = true)
    (h : WDK ro n P l.toArray Q k SA SB fuel l0 a w.drew) : WC ro n P (Code.region id l.toArray true) Q a w := by
  refine ⟨wpIn_region_any hm (wpK_any (k := k) (SA := SA) (SB := SB) _ _ _ _ ?_)⟩
  injection hf with h1 h2
  rw [h2, h1]
  exact h.out

/-- one that k stands behind -/
theorem gk1 (i : Nat) (oi : Oper) (v : Value) (hi : ops[i]? = some oi) (hS : SA w) (hy : ∀ w, SA w → (execOp a.eval oi).run P w = .ok (.value v) w)
    (h : WDK ro n P ops Q k SA SB fuel (listed.setIfInBounds i true) (a.put oi.dst v) w)
    (hQ : ∀ c a w, Q (.panic c) (a.put oi.dst v) w → Q (.panic c) a w := by exact fun _ _ _ h => h)
    (hc : (ops.all plainOp && (Region.noSelect ops && (Region.free .any ops listed i && ((Region.ready .any ops listed).contains i && (Region.wanted oi (yielded ops a.tmps) && (depK ops k i && (!(i == k) && !(listed.getD k true)))))))) = true := by as_aux_lemma => kernel_rfl) :
    WDK ro n P ops Q k SA SB (fuel + 1) listed a w := by
  simp only [Bool.and_eq_true, Bool.not_eq_true', beq_eq_false_iff_ne] at hc
  exact ⟨wpK_take true hc.1 hi hc.2.1 hc.2.2.1 hc.2.2.2.1 hQ hc.2.2.2.2.2.2.1 (fun _ => hc.2.2.2.2.2.1) hc.2.2.2.2.2.2.2 (Or.inl ⟨hc.2.2.2.2.1, fun w hw => hy w (hw rfl)⟩) hS h.out⟩

/-- one that asks nothing of the world -/
theorem gk1f (i : Nat) (oi : Oper) (v : Value) (hi : ops[i]? = some oi) (hS : SA w) (hy : ∀ w, (execOp a.eval oi).run P w = .ok (.value v) w)
    (h : WDK ro n P ops Q k SA SB fuel (listed.setIfInBounds i true) (a.put oi.dst v) w)
    (hQ : ∀ c a w, Q (.panic c) (a.put oi.dst v) w → Q (.panic c) a w := by exact fun _ _ _ h => h)
    (hc : (ops.all plainOp && (Region.noSelect ops && (Region.free .any ops listed i && ((Region.ready .any ops listed).contains i && (Region.wanted oi (yielded ops a.tmps) && (!(i == k) && !(listed.getD k true))))))) = true := by as_aux_lemma => kernel_rfl) :
    WDK ro n P ops Q k SA SB (fuel + 1) listed a w := by
  simp only [Bool.and_eq_true, Bool.not_eq_true', beq_eq_false_iff_ne] at hc
  exact ⟨wpK_take false hc.1 hi hc.2.1 hc.2.2.1 hc.2.2.2.1 hQ hc.2.2.2.2.2.1 (fun h => by cases h) hc.2.2.2.2.2.2 (Or.inl ⟨hc.2.2.2.2.1, fun w _ => hy w⟩) hS h.out⟩

theorem gk_one (i : Nat) (oi : Oper) (hi : ops[i]? = some oi) (hc : (plainOp oi && (decide (Region.ready .any ops listed = [i]) && Region.wanted oi (yielded ops a.tmps))) = true)
    (h : oi.uponIn (FW ro) n P a (fun a' w' => KS k SA SB (listed.setIfInBounds i true) w' ∧ wpK ro n P ops Q k SA SB fuel (listed.setIfInBounds i true) a' w') Q ((execOp a.eval oi).run P w)) : WDK ro n P ops Q k SA SB (fuel + 1) listed a w := by
  rw [Bool.and_eq_true, Bool.and_eq_true] at hc
  refine ⟨wpK_one hi (of_decide_eq_true hc.2.1) hc.2.2 ⟨fun _ _ => trivial, ?_⟩⟩
  rw [show (FW ro).round = ro from rfl, semAt_fw hc.1]
  exact h

theorem ks_A {l : Array Bool} (hl : l.getD k true = false) (h : SA w) : KS k SA SB l w := ⟨fun h0 => (by rw [hl] at h0; cases h0), fun _ => h⟩
theorem ks_B {l : Array Bool} (hl : l.getD k true = true) (h : SB w) : KS k SA SB l w := ⟨fun _ => h, fun h0 => (by rw [hl] at h0; cases h0)⟩

theorem gkR (i : Nat) (oi : Oper) {R : Value → World → Prop} (hi : ops[i]? = some oi) (hx : ∃ v w', (execOp a.eval oi).run P w = .ok (.value v) w' ∧ R v w')
    (h : ∀ v w', R v w' → SA w' ∧ WDK ro n P ops Q k SA SB fuel (listed.setIfInBounds i true) (a.put oi.dst v) w')
    (hc : (plainOp oi && (decide (Region.ready .any ops listed = [i]) && Region.wanted oi (yielded ops a.tmps))) = true := by as_aux_lemma => kernel_rfl)
    (hl : (listed.setIfInBounds i true).getD k true = false := by kernel_rfl) :
    WDK ro n P ops Q k SA SB (fuel + 1) listed a w := by
  obtain ⟨v, w', h1, h2⟩ := hx
  refine gk_one i oi hi hc ?_
  rw [h1]
  exact ⟨ks_A hl (h v w' h2).1, (h v w' h2).2.out⟩

theorem gkC (i : Nat) (oi : Oper) {f : Nat} {args : Array Value} (R : Value → World → Prop) (hi : ops[i]? = some oi) (hx : (execOp a.eval oi).run P w = .ok (.enter f args) w)
    (hcall : Calls P f args w fun e w' => ∃ v, e = .returned v ∧ R v w')
    (h : ∀ v w', R v w' → SA w' ∧ WDK ro n P ops Q k SA SB fuel (listed.setIfInBounds i true) (a.put oi.dst v) w')
    (hc : (plainOp oi && (decide (Region.ready .any ops listed = [i]) && Region.wanted oi (yielded ops a.tmps))) = true := by as_aux_lemma => kernel_rfl)
    (hl : (listed.setIfInBounds i true).getD k true = false := by kernel_rfl) :
    WDK ro n P ops Q k SA SB (fuel + 1) listed a w := by
  refine gk_one i oi hi hc ?_
  rw [hx]
  refine ⟨fun hd => (by cases hd), calls_in (hcall.mono ?_)⟩
  rintro e w' ⟨v, rfl, hR⟩
  exact ⟨ks_A hl (h v w' hR).1, (h v w' hR).2.out⟩

/-- the store k: behind it the region's other condition is held -/
theorem gkS (oi : Oper) {R : World → Prop} (hi : ops[k]? = some oi) (hx : ∃ w', (execOp a.eval oi).run P w = .ok .skip w' ∧ R w')
    (h : ∀ w', R w' → SB w' ∧ WD ro n P ops Q SB fuel (listed.setIfInBounds k true) (a.put oi.dst undef) w')
    (hc : (plainOp oi && (decide (Region.ready .any ops listed = [k]) && Region.wanted oi (yielded ops a.tmps))) = true := by as_aux_lemma => kernel_rfl)
    (hl : (listed.setIfInBounds k true).getD k true = true := by kernel_rfl) :
    WDK ro n P ops Q k SA SB (fuel + 1) listed a w := by
  obtain ⟨w', h1, h2⟩ := hx
  refine gk_one k oi hi hc ?_
  rw [h1]
  exact ⟨ks_B hl (h w' h2).1, wpK_to _ _ _ _ hl (h w' h2).2.out⟩
end
end Go.Proofs.YtbdhgjaoojimmaaDoor
