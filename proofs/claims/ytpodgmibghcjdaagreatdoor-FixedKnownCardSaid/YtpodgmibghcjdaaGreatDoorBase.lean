/-
  Laws that the walks of layer 1 lean on: a region that draws its order and holds 'recover' (each order that it may draw is walked); signs of xor and and on int64.
-/
import Derived.Recover
import Derived.Orders
import Derived.Tactics
namespace Go.Proofs.YtpodgmibghcjdaaGreatDoor
open Go

/-- every order in which the operations of a region can be listed -/
def allLin (md : Region.Mode) (ops : Array Oper) : Nat → Array Bool → List (List Nat)
  | 0, _ => [[]]
  | fuel + 1, listed =>
    match Region.ready md ops listed with
    | [] => [[]]
    | r :: rs => (r :: rs).flatMap fun i => (allLin md ops fuel (listed.setIfInBounds i true)).map (i :: ·)

theorem lin_mem (md : Region.Mode) (ops : Array Oper) : ∀ (fuel t : Nat) (listed : Array Bool), Region.linearise.go md ops fuel t listed [] ∈ allLin md ops fuel listed := by
  intro fuel
  induction fuel with
  | zero => intro t listed; simp [Region.linearise.go, allLin]
  | succ fuel ih =>
    intro t listed
    simp only [Region.linearise.go, allLin]
    change (match (Region.ready md ops listed)[t % (Region.ready md ops listed).length]? with
      | some i => Region.linearise.go md ops fuel (t / (Region.ready md ops listed).length) (listed.setIfInBounds i true) [i]
      | none => [].reverse) ∈ _
    cases hr : Region.ready md ops listed with
    | nil => simp
    | cons x xs =>
      have hlt : t % (x :: xs).length < (x :: xs).length := Nat.mod_lt _ (by simp)
      rw [List.getElem?_eq_getElem hlt]
      simp only []
      rw [linearise_go_acc, List.reverse_singleton, List.singleton_append]
      rw [List.mem_flatMap]
      exact ⟨_, List.getElem_mem hlt, List.mem_map.2 ⟨_, ih _ _, rfl⟩⟩

section
variable {P : Program} {Q : Exit → Act → List Frame → World → Prop} {a : Act} {cs : List Frame} {w : World} {ops : Array Oper}

theorem wpS_region_draw {id : Nat} (hm : P.follows .mixedOrders = true) {L : List (List Nat)} (hL : allLin .any ops ops.size (Array.replicate ops.size false) = L)
    (h : ∀ l ∈ L, wpOpsS P ops Q l a cs { w with drawn := w.drawn + 1 }) : (Code.region id ops true).wpS P Q a cs w := by
  intro b k hb hr
  have hmem : Region.schedule (P.follows .mixedOrders) ops (w.tape w.drawn (.order b.fn id)) ∈ L := by
    simp only [Region.schedule, hm, Bool.true_or, if_true]
    rw [← hL]; exact lin_mem _ _ _ _ _
  let ⟨e, a', cs', w', q, r⟩ := wp_opsS _ a cs _ (h _ hmem) b k hb hr
  exact ⟨e, a', cs', w', q, .of_steps (.one step_region_draw) r⟩

theorem opsS_end (h : Q .normal a cs w) : wpOpsS P ops Q [] a cs w := h

theorem opsS_val {i : Nat} {o : Oper} {rest : List Nat} {v : Value} {w' : World} (ho : ops[i]? = some o) (hw : Region.wanted o (yielded ops a.tmps) = true)
    (hr : (execOp a.eval o).run P w = .ok (.value v) w') (h : wpOpsS P ops Q rest (a.put o.dst v) cs w') : wpOpsS P ops Q (i :: rest) a cs w := by
  simp only [wpOpsS, ho, hw, if_true, hr, Oper.upon_value]; exact h

theorem opsS_skip {i : Nat} {o : Oper} {rest : List Nat} {w' : World} (ho : ops[i]? = some o) (hw : Region.wanted o (yielded ops a.tmps) = true)
    (hr : (execOp a.eval o).run P w = .ok .skip w') (h : wpOpsS P ops Q rest (a.put o.dst undef) cs w') : wpOpsS P ops Q (i :: rest) a cs w := by
  simp only [wpOpsS, ho, hw, if_true, hr, Oper.upon_skip]; exact h

theorem opsS_rec {i : Nat} {o : Oper} {rest : List Nat} {v : Value} {w' : World} {cs' : List Frame} (ho : ops[i]? = some o) (hw : Region.wanted o (yielded ops a.tmps) = true)
    (hr : (execOp a.eval o).run P w = .ok .recover w') (hc : recoverD cs = some (v, cs')) (h : wpOpsS P ops Q rest (a.put o.dst v) cs' w') : wpOpsS P ops Q (i :: rest) a cs w := by
  simp only [wpOpsS, ho, hw, if_true, hr, hc]; exact h

theorem opsS_nil {i : Nat} {o : Oper} {rest : List Nat} {w' : World} (ho : ops[i]? = some o) (hw : Region.wanted o (yielded ops a.tmps) = true)
    (hr : (execOp a.eval o).run P w = .ok .recover w') (hc : recoverD cs = none) (h : wpOpsS P ops Q rest (a.put o.dst .nilIface) cs w') : wpOpsS P ops Q (i :: rest) a cs w := by
  simp only [wpOpsS, ho, hw, if_true, hr, hc]; exact h

theorem opsS_call {i : Nat} {o : Oper} {rest : List Nat} {f : FuncId} {args : Array Value} {w' : World} {v : Value} {R : World → Prop} (ho : ops[i]? = some o) (hw : Region.wanted o (yielded ops a.tmps) = true)
    (hr : (execOp a.eval o).run P w = .ok (.enter f args) w') (hc : Calls P f args w' fun e w'' => e = .returned v ∧ R w'')
    (h : ∀ w'', R w'' → wpOpsS P ops Q rest (a.put o.dst v) cs w'') : wpOpsS P ops Q (i :: rest) a cs w := by
  simp only [wpOpsS, ho, hw, if_true, hr]
  exact hc.mono fun e w'' he => by obtain ⟨rfl, hR⟩ := he; exact h _ hR
end

section
variable {P : Program} {ops : Array Oper} {Q : Exit → Act → World → Prop} {a : Act} {w : World}

theorem wpOps_list (l : List Nat) : ∀ (os : List Oper), l.map (fun i => ops[i]?) = os.map some → wpOps P ops Q l = wpList P ops Q os := by
  induction l with
  | nil =>
    intro os h
    cases os with
    | nil => funext a w; simp [wpOps, wpList]
    | cons o os => simp at h
  | cons i l ih =>
    intro os h
    cases os with
    | nil => simp at h
    | cons o os =>
      simp only [List.map_cons, List.cons.injEq] at h
      funext a w
      simp only [wpOps, h.1, wpList, ih os h.2]

/-- the operations of these numbers -/
def pick (ops : Array Oper) (l : List Nat) : List Oper := l.filterMap fun i => ops[i]?

/-- a region that draws its order, walked in each order that it may draw -/
theorem wp_region_orders {id : Nat} (hm : P.follows .mixedOrders = true) {L : List (List Nat)}
    (hL : allLin .any ops ops.size (Array.replicate ops.size false) = L) (hin : (L.all fun l => l.all fun i => decide (i < ops.size)) = true)
    (h : ∀ l ∈ L, wpList P ops Q (pick ops l) a w.drew) : (Code.region id ops true).wp P Q a w := by
  refine wp_region_draw fun t => ?_
  have hmem : Region.schedule (P.follows .mixedOrders) ops t ∈ L := by
    simp only [Region.schedule, hm, Bool.true_or, if_true]
    rw [← hL]
    exact lin_mem _ _ _ _ _
  generalize Region.schedule (P.follows .mixedOrders) ops t = l at hmem
  have hall := List.all_eq_true.1 (List.all_eq_true.1 hin l hmem)
  rw [wpOps_list l (pick ops l)]
  · exact h l hmem
  · clear h hmem hin hL
    induction l with
    | nil => rfl
    | cons i l ih =>
      have hi : i < ops.size := by simpa using hall i (List.mem_cons_self ..)
      have e : ops[i]? = some ops[i] := by simp [hi]
      rw [List.map_cons, ih (fun x hx => hall x (List.mem_cons_of_mem _ hx)), pick, pick, List.filterMap_cons_some e, List.map_cons, e]
end
end Go.Proofs.YtpodgmibghcjdaaGreatDoor
