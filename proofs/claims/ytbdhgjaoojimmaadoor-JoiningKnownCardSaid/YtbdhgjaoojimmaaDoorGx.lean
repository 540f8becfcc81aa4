/-
  Walks by explicit steps: the rules, for activations and for rounds alike.
-/
import Derived.Test.YtbdhgjaoojimmaaDoorGa
import Derived.WalkKit
import Derived.KernelRfl
import Derived.Below
import Derived.Lib.Hide
import Derived.ProofKit
import Derived.Laws.AppendOwn
import Derived.Laws.AppendOwnNone
import Derived.Laws.BytesArg
import Derived.Maps.AppendAt
import Derived.OrdersHeld
import Derived.TacticsIn
import Derived.CallsIn
import Derived.RangeFuncNested
import Derived.ScopeJumps
namespace Go.Proofs.YtbdhgjaoojimmaaDoor
open Go Go.RowKit

/-- how a piece ends: it goes on, or the function returns -/
inductive Ctl (S R : Type) where
  | go (s : S)
  | ret (r : R)

/-- slots of which nothing is said, one behind the other -/
def dd (u : Nat → Value) : Nat → Nat → List Value → List Value
  | _, 0, r => r
  | i, n + 1, r => u i :: dd u (i + 1) n r
def un : Nat → List Value → List Value
  | 0, r => r
  | n + 1, r => undef :: un n r
/-- an activation, told but for some slots -/
def selfA (F : (Nat → Value) → Act) (a : Act) : Prop := a = F fun i => a.tmps.getD i undef
theorem selfA_i {F : (Nat → Value) → Act} {a : Act} (h : a = F fun i => a.tmps.getD i undef) : selfA F a := h
theorem selfA_u {F : (Nat → Value) → Act} {a : Act} (h : selfA F a) : ∃ u, a = F u := ⟨_, h⟩

theorem calls_in {P : Program} {ro : Option Nat} {n f : Nat} {args : Array Value} {w : World} {R : Ending → World → Prop} (h : Calls P f args w R) : CallsIn (FW ro) n P f args w R :=
  (callsIn_wide (n := n)).2 h

/-- a piece of code, walked (told as a structure, so that nobody looks into it unasked) -/
structure WC (ro : Option Nat) (n : Nat) (P : Program) (c : Code) (Q : Exit → Act → World → Prop) (a : Act) (w : World) : Prop where
  out : c.wpIn (FW ro) n P Q a w
/-- the operations of a region, walked -/
structure WL (ro : Option Nat) (n : Nat) (P : Program) (ops : Array Oper) (Q : Exit → Act → World → Prop) (l : List Oper) (a : Act) (w : World) : Prop where
  out : wpListIn (FW ro) n P ops Q l a w
/-- a region that draws its order, walked -/
structure WD (ro : Option Nat) (n : Nat) (P : Program) (ops : Array Oper) (Q : Exit → Act → World → Prop) (S : World → Prop) (fuel : Nat) (listed : Array Bool) (a : Act) (w : World) : Prop where
  out : wpHeld ro n P ops Q S fuel listed a w
/-- where a piece ends -/
structure WQ (Q : Exit → Act → World → Prop) (e : Exit) (a : Act) (w : World) : Prop where
  out : Q e a w

theorem calls_of {P : Program} {f : Nat} {fn : Func} {c : Code} {args : Array Value} {w : World} {R : Ending → World → Prop} (hf : P.funcs[f]? = some fn) (hb : fn.body = some c) (a : Act)
    (ha : ({ tmps := args ++ Array.replicate (fn.ntmps - args.size) undef, defers := [] } : Act) = a)
    (h : WC none 9 P c (bodyPost P fn R) a w) : Calls P f args w R :=
  (callsIn_wide (n := 9)).1 (callsIn_of_wp (F := Fence.wide) hf hb trivial (by rw [ha]; exact h.out) rfl)

section
variable {P : Program} {ro : Option Nat} {n : Nat} {ops : Array Oper} {Q : Exit → Act → World → Prop} {rest : List Oper} {o : Oper} {a : Act} {w : World}

def gok (o : Oper) (ops : Array Oper) (a : Act) : Bool := Region.wanted o (yielded ops a.tmps) && plainOp o

theorem gx_val (v : Value) (w' : World) (hg : gok o ops a = true) (hr : (execOp a.eval o).run P w = .ok (.value v) w')
    (h : WL ro n P ops Q rest (a.put o.dst v) w') : WL ro n P ops Q (o :: rest) a w := by
  unfold gok at hg
  rw [Bool.and_eq_true] at hg
  constructor
  unfold wpListIn
  rw [if_pos hg.1]
  refine ⟨fun _ _ => trivial, ?_⟩
  rw [semAt_fw hg.2, hr]
  exact h.out

theorem gx_skip (w' : World) (hg : gok o ops a = true) (hr : (execOp a.eval o).run P w = .ok .skip w')
    (h : WL ro n P ops Q rest (a.put o.dst undef) w') : WL ro n P ops Q (o :: rest) a w := by
  unfold gok at hg
  rw [Bool.and_eq_true] at hg
  constructor
  unfold wpListIn
  rw [if_pos hg.1]
  refine ⟨fun _ _ => trivial, ?_⟩
  rw [semAt_fw hg.2, hr]
  exact h.out

theorem gx_off (hg : Region.wanted o (yielded ops a.tmps) = false)
    (h : WL ro n P ops Q rest (a.put o.dst undef) w) : WL ro n P ops Q (o :: rest) a w := by
  constructor
  unfold wpListIn
  rw [if_neg (by rw [hg]; decide)]
  exact ⟨fun _ _ => trivial, h.out⟩

theorem gx_call {f : Nat} {args : Array Value} (R : Value → World → Prop) (hg : gok o ops a = true) (hr : (execOp a.eval o).run P w = .ok (.enter f args) w)
    (hc : Calls P f args w fun e w' => ∃ v, e = .returned v ∧ R v w')
    (h : ∀ v w', R v w' → WL ro n P ops Q rest (a.put o.dst v) w') : WL ro n P ops Q (o :: rest) a w := by
  unfold gok at hg
  rw [Bool.and_eq_true] at hg
  constructor
  unfold wpListIn
  rw [if_pos hg.1]
  refine ⟨fun _ _ => trivial, ?_⟩
  rw [semAt_fw hg.2, hr]
  refine ⟨fun hd => (by cases hd), calls_in (hc.mono ?_)⟩
  rintro e w' ⟨v, rfl, hR⟩
  exact (h v w' hR).out

theorem wpIn_seg {F : Fence} {o : Oper} {a : Act} {w : World} {K K' K2 : Act → World → Prop} (h : ∀ a w, K a w → K' a w) (hh : o.wpIn F n P a w K (Exit.then K2 Q)) : o.wpIn F n P a w K' Q := by
  unfold Oper.wpIn at *
  refine ⟨hh.1, ?_⟩
  have hh := hh.2
  generalize (o.semAt F.round a.eval).run P w = r at *
  cases r with
  | ok x w' =>
    cases x <;> simp only [Oper.uponIn] at hh ⊢ <;>
      first
        | exact h _ _ hh
        | exact ⟨hh.1, CallsIn.mono hh.2 (fun e w'' he => by cases e <;> first | exact h _ _ he | exact he)⟩
        | exact ⟨hh.1, RowsIn.mono hh.2 (fun _ _ he => h _ _ he)⟩
        | exact ⟨hh.1, RoundIn.mono hh.2 (fun e w'' he => by cases e <;> first | exact h _ _ he | exact he)⟩
  | halt x w' => cases x <;> simp only [Oper.uponIn] at hh ⊢ <;> exact hh

/-- the ways through the first operations meet again ahead of the others -/
theorem gx_ops {l2 : List Oper} (K : Act → World → Prop) : ∀ (l1 : List Oper) {a : Act} {w : World}, WL ro n P ops (Exit.then K Q) l1 a w → (∀ a w, K a w → WL ro n P ops Q l2 a w) → WL ro n P ops Q (l1 ++ l2) a w
  | [], a, w, h1, h2 => h2 a w h1.out
  | o :: l1, a, w, h1, h2 => by
    have h := h1.out
    constructor
    show wpListIn (FW ro) n P ops Q (o :: (l1 ++ l2)) a w
    unfold wpListIn at h ⊢
    split
    · rename_i hw
      rw [if_pos hw] at h
      exact wpIn_seg (fun a w hK => (gx_ops K l1 ⟨hK⟩ h2).out) h
    · rename_i hw
      rw [if_neg hw] at h
      exact ⟨h.1, (gx_ops K l1 ⟨h.2⟩ h2).out⟩
theorem gx_part {l l1 l2 : List Oper} (K : Act → World → Prop) (hl : l1 ++ l2 = l) (h1 : WL ro n P ops (Exit.then K Q) l1 a w) (h2 : ∀ a w, K a w → WL ro n P ops Q l2 a w) : WL ro n P ops Q l a w := hl ▸ gx_ops K l1 h1 h2

theorem gx_nil (h : WQ Q .normal a w) : WL ro n P ops Q [] a w := ⟨h.out⟩

theorem gx_region {id : Nat} {l : List Oper} (h : WL ro n P l.toArray Q l a w) : WC ro n P (Code.region id l.toArray false) Q a w := ⟨wpIn_region_lit h.out⟩

theorem gx_seq {x y : Code} (h : ∀ K : Act → World → Prop, (∀ a w, WC ro n P y Q a w → K a w) → WC ro n P x (Exit.then K Q) a w) : WC ro n P (Code.seq x y) Q a w :=
  ⟨wpIn_seq_k fun K hK => (h K fun a w h => hK a w h.out).out⟩

/-- the ways through x meet again ahead of y -/
theorem gx_cut {x y : Code} (K : Act → World → Prop) (hx : WC ro n P x (Exit.then K Q) a w) (hy : ∀ a w, K a w → WC ro n P y Q a w) : WC ro n P (Code.seq x y) Q a w :=
  ⟨wpIn_seq (wpIn_mono hx.out fun e a w h => by cases e <;> first | exact (hy _ _ h).out | exact h)⟩

/-- the ways through x meet again -/
theorem gx_mid {x : Code} (K : Act → World → Prop) (hx : WC ro n P x (Exit.then K Q) a w) (hy : ∀ a w, K a w → WQ Q .normal a w) : WC ro n P x Q a w :=
  ⟨wpIn_mono hx.out fun e a w h => by cases e <;> first | exact (hy _ _ h).out | exact h⟩

theorem gx_yes {c : Operand} {x y : Code} (hc : a.eval c = .bool true) (h : WC ro n P x Q a w) : WC ro n P (Code.cond c x y) Q a w := ⟨wpIn_cond_true hc h.out⟩
theorem gx_no {c : Operand} {x y : Code} (hc : a.eval c = .bool false) (h : WC ro n P y Q a w) : WC ro n P (Code.cond c x y) Q a w := ⟨wpIn_cond_false hc h.out⟩
theorem gx_ret (h : WQ Q .ret a w) : WC ro n P Code.ret Q a w := ⟨wpIn_ret h.out⟩
theorem gx_pass (h : WQ Q .normal a w) : WC ro n P Code.skip Q a w := ⟨wpIn_skip h.out⟩
theorem gx_exit {id : Nat} (h : WQ Q (.exit id) a w) : WC ro n P (Code.exit id) Q a w := ⟨wpIn_exit h.out⟩
theorem gx_block {id : Nat} {c : Code} (h : WC ro n P c (Exit.inBlock id Q) a w) : WC ro n P (Code.block id c) Q a w := ⟨wpIn_block h.out⟩

theorem gx_thenN {K : Act → World → Prop} (h : K a w) : WQ (Exit.then K Q) .normal a w := ⟨h⟩
theorem gx_thenR {K : Act → World → Prop} (h : WQ Q .ret a w) : WQ (Exit.then K Q) .ret a w := ⟨h.out⟩
theorem gx_thenE {K : Act → World → Prop} {id : Nat} (h : WQ Q (.exit id) a w) : WQ (Exit.then K Q) (.exit id) a w := ⟨h.out⟩
theorem gx_thenG {K : Act → World → Prop} {l : Nat} (h : WQ Q (.goto l) a w) : WQ (Exit.then K Q) (.goto l) a w := ⟨h.out⟩
theorem gx_blkN {id : Nat} (h : WQ Q .normal a w) : WQ (Exit.inBlock id Q) .normal a w := ⟨h.out⟩
theorem gx_blkR {id : Nat} (h : WQ Q .ret a w) : WQ (Exit.inBlock id Q) .ret a w := ⟨h.out⟩
theorem gx_blkG {id l : Nat} (h : WQ Q (.goto l) a w) : WQ (Exit.inBlock id Q) (.goto l) a w := ⟨h.out⟩
theorem gx_blkE {id : Nat} (h : WQ Q .normal a w) : WQ (Exit.inBlock id Q) (.exit id) a w := ⟨by simp only [Exit.inBlock, if_true]; exact h.out⟩
theorem gx_blkO {id id' : Nat} (hne : id' ≠ id) (h : WQ Q (.exit id') a w) : WQ (Exit.inBlock id Q) (.exit id') a w := ⟨by simp only [Exit.inBlock, hne, if_false]; exact h.out⟩
theorem gx_fin {fn : Func} {R : Ending → World → Prop} (v : Value) (hd : a.defers = []) (hr : (results fn a.tmps).run P w = .ok v w) (h : R (.returned v) w) : WQ (bodyPost P fn R) .ret a w := ⟨hd, v, hr, h⟩
theorem gx_finN {fn : Func} {R : Ending → World → Prop} (v : Value) (hd : a.defers = []) (hr : (results fn a.tmps).run P w = .ok v w) (h : R (.returned v) w) : WQ (bodyPost P fn R) .normal a w := ⟨hd, v, hr, h⟩

theorem gx_R {R : Value → World → Prop} (hg : gok o ops a = true) (hr : ∃ v w', (execOp a.eval o).run P w = .ok (.value v) w' ∧ R v w')
    (h : ∀ v w', R v w' → WL ro n P ops Q rest (a.put o.dst v) w') : WL ro n P ops Q (o :: rest) a w := by
  obtain ⟨v, w', hr, hR⟩ := hr
  exact gx_val v w' hg hr (h v w' hR)

theorem gx_S {R : World → Prop} (hg : gok o ops a = true) (hr : ∃ w', (execOp a.eval o).run P w = .ok .skip w' ∧ R w')
    (h : ∀ w', R w' → WL ro n P ops Q rest (a.put o.dst undef) w') : WL ro n P ops Q (o :: rest) a w := by
  obtain ⟨w', hr, hR⟩ := hr
  exact gx_skip w' hg hr (h w' hR)

/-! ### the same, their closed facts left out -/
theorem gx_k (v : Value) (w' : World) (h : WL ro n P ops Q rest (a.put o.dst v) w') (hg : gok o ops a = true := by kernel_rfl) (hr : (execOp a.eval o).run P w = .ok (.value v) w' := by kernel_rfl) : WL ro n P ops Q (o :: rest) a w := gx_val v w' hg hr h
theorem gx_v (v : Value) (w' : World) (hr : (execOp a.eval o).run P w = .ok (.value v) w') (h : WL ro n P ops Q rest (a.put o.dst v) w') (hg : gok o ops a = true := by kernel_rfl) : WL ro n P ops Q (o :: rest) a w := gx_val v w' hg hr h
theorem gx_o (h : WL ro n P ops Q rest (a.put o.dst undef) w) (hg : Region.wanted o (yielded ops a.tmps) = false := by kernel_rfl) : WL ro n P ops Q (o :: rest) a w := gx_off hg h
theorem gx_r {R : Value → World → Prop} (hr : ∃ v w', (execOp a.eval o).run P w = .ok (.value v) w' ∧ R v w') (h : ∀ v w', R v w' → WL ro n P ops Q rest (a.put o.dst v) w') (hg : gok o ops a = true := by kernel_rfl) : WL ro n P ops Q (o :: rest) a w := gx_R hg hr h
theorem gx_s {R : World → Prop} (hr : ∃ w', (execOp a.eval o).run P w = .ok .skip w' ∧ R w') (h : ∀ w', R w' → WL ro n P ops Q rest (a.put o.dst undef) w') (hg : gok o ops a = true := by kernel_rfl) : WL ro n P ops Q (o :: rest) a w := gx_S hg hr h
theorem gx_c {f : Nat} {args : Array Value} (R : Value → World → Prop) (hc : Calls P f args w fun e w' => ∃ v, e = .returned v ∧ R v w') (h : ∀ v w', R v w' → WL ro n P ops Q rest (a.put o.dst v) w') (hg : gok o ops a = true := by kernel_rfl) (hr : (execOp a.eval o).run P w = .ok (.enter f args) w := by kernel_rfl) : WL ro n P ops Q (o :: rest) a w := gx_call R hg hr hc h
theorem gx_kA (v : Value) (w' : World) (h : WL ro n P ops Q rest (a.put o.dst v) w') (hg : gok o ops a = true := by as_aux_lemma => kernel_rfl) (hr : (execOp a.eval o).run P w = .ok (.value v) w' := by as_aux_lemma => kernel_rfl) : WL ro n P ops Q (o :: rest) a w := gx_val v w' hg hr h
theorem gx_vA (v : Value) (w' : World) (hr : (execOp a.eval o).run P w = .ok (.value v) w') (h : WL ro n P ops Q rest (a.put o.dst v) w') (hg : gok o ops a = true := by as_aux_lemma => kernel_rfl) : WL ro n P ops Q (o :: rest) a w := gx_val v w' hg hr h
theorem gx_oA (h : WL ro n P ops Q rest (a.put o.dst undef) w) (hg : Region.wanted o (yielded ops a.tmps) = false := by as_aux_lemma => kernel_rfl) : WL ro n P ops Q (o :: rest) a w := gx_off hg h
theorem gx_rA {R : Value → World → Prop} (hr : ∃ v w', (execOp a.eval o).run P w = .ok (.value v) w' ∧ R v w') (h : ∀ v w', R v w' → WL ro n P ops Q rest (a.put o.dst v) w') (hg : gok o ops a = true := by as_aux_lemma => kernel_rfl) : WL ro n P ops Q (o :: rest) a w := gx_R hg hr h
theorem gx_sA {R : World → Prop} (hr : ∃ w', (execOp a.eval o).run P w = .ok .skip w' ∧ R w') (h : ∀ w', R w' → WL ro n P ops Q rest (a.put o.dst undef) w') (hg : gok o ops a = true := by as_aux_lemma => kernel_rfl) : WL ro n P ops Q (o :: rest) a w := gx_S hg hr h
theorem gx_cA {f : Nat} {args : Array Value} (R : Value → World → Prop) (hc : Calls P f args w fun e w' => ∃ v, e = .returned v ∧ R v w') (h : ∀ v w', R v w' → WL ro n P ops Q rest (a.put o.dst v) w') (hg : gok o ops a = true := by as_aux_lemma => kernel_rfl) (hr : (execOp a.eval o).run P w = .ok (.enter f args) w := by as_aux_lemma => kernel_rfl) : WL ro n P ops Q (o :: rest) a w := gx_call R hg hr hc h

/-! ### a region that draws its order -/
section
variable {S : World → Prop} {fuel : Nat} {listed : Array Bool}

theorem gd_start {id : Nat} {l : List Oper} (S : World → Prop) (fuel : Nat) (l0 : Array Bool) (hf : (l.toArray.size, Array.replicate l.toArray.size false) = (fuel, l0)) (hm : P.follows .mixedOrders = true)
    (h : WD ro n P l.toArray Q S fuel l0 a w.drew) : WC ro n P (Code.region id l.toArray true) Q a w := by
  refine ⟨wpHeld_region (S := S) hm ?_⟩
  injection hf with h1 h2
  rw [h2, h1]
  exact h.out

theorem gd_done (hc : Region.ready .any ops listed = []) (h : WQ Q .normal a w) : WD ro n P ops Q S fuel listed a w := ⟨wpHeld_done hc h.out _⟩

/-- the ways through some operations meet again -/
theorem gd_mid (K : Act → World → Prop) (fuel2 : Nat) (listed2 : Array Bool) (h2 : ∀ a w, K a w → WD ro n P ops Q S fuel2 listed2 a w) (h1 : (∀ a w, K a w → WD ro n P ops Q S fuel2 listed2 a w) → WD ro n P ops Q S fuel listed a w) : WD ro n P ops Q S fuel listed a w := h1 h2
theorem gd_to {K : Act → World → Prop} {listed2 : Array Bool} (hK : ∀ a w, K a w → WD ro n P ops Q S fuel listed2 a w) (hl : listed = listed2) (h : K a w) : WD ro n P ops Q S fuel listed a w := hl ▸ hK a w h

/-- an operation that is wanted is taken -/
theorem gd1 (i : Nat) (oi : Oper) (v : Value) (hi : ops[i]? = some oi) (hS : S w) (hy : ∀ w, S w → (execOp a.eval oi).run P w = .ok (.value v) w)
    (h : WD ro n P ops Q S fuel (listed.setIfInBounds i true) (a.put oi.dst v) w)
    (hQ : ∀ c a w, Q (.panic c) (a.put oi.dst v) w → Q (.panic c) a w := by exact fun _ _ _ h => h)
    (hc : (ops.all plainOp && (Region.noSelect ops && (Region.free .any ops listed i && ((Region.ready .any ops listed).contains i && Region.wanted oi (yielded ops a.tmps))))) = true := by as_aux_lemma => kernel_rfl) :
    WD ro n P ops Q S (fuel + 1) listed a w := by
  simp only [Bool.and_eq_true] at hc
  exact ⟨wpHeld_take hc.1 hi hc.2.1 hc.2.2.1 hc.2.2.2.1 hQ (Or.inl ⟨hc.2.2.2.2, hy⟩) hS h.out⟩

/-- an operation that is not wanted is passed over -/
theorem gd0 (i : Nat) (oi : Oper) (hi : ops[i]? = some oi) (hS : S w)
    (h : WD ro n P ops Q S fuel (listed.setIfInBounds i true) (a.put oi.dst undef) w)
    (hQ : ∀ c a w, Q (.panic c) (a.put oi.dst undef) w → Q (.panic c) a w := by exact fun _ _ _ h => h)
    (hc : (ops.all plainOp && (Region.noSelect ops && (Region.free .any ops listed i && ((Region.ready .any ops listed).contains i && !Region.wanted oi (yielded ops a.tmps))))) = true := by as_aux_lemma => kernel_rfl) :
    WD ro n P ops Q S (fuel + 1) listed a w := by
  simp only [Bool.and_eq_true, Bool.not_eq_true'] at hc
  exact ⟨wpHeld_take hc.1 hi hc.2.1 hc.2.2.1 hc.2.2.2.1 hQ (Or.inr ⟨hc.2.2.2.2, rfl⟩) hS h.out⟩

theorem gd_one (i : Nat) (oi : Oper) (hi : ops[i]? = some oi) (hc : (plainOp oi && (decide (Region.ready .any ops listed = [i]) && Region.wanted oi (yielded ops a.tmps))) = true)
    (h : oi.uponIn (FW ro) n P a (fun a' w' => S w' ∧ wpHeld ro n P ops Q S fuel (listed.setIfInBounds i true) a' w') Q ((execOp a.eval oi).run P w)) : WD ro n P ops Q S (fuel + 1) listed a w := by
  rw [Bool.and_eq_true, Bool.and_eq_true] at hc
  refine ⟨wpHeld_one hi (of_decide_eq_true hc.2.1) hc.2.2 ⟨fun _ _ => trivial, ?_⟩⟩
  rw [show (FW ro).round = ro from rfl, semAt_fw hc.1]
  exact h

/-- one that turns the world, nothing else being ready -/
theorem gdR (i : Nat) (oi : Oper) {R : Value → World → Prop} (hi : ops[i]? = some oi) (hx : ∃ v w', (execOp a.eval oi).run P w = .ok (.value v) w' ∧ R v w')
    (h : ∀ v w', R v w' → S w' ∧ WD ro n P ops Q S fuel (listed.setIfInBounds i true) (a.put oi.dst v) w')
    (hc : (plainOp oi && (decide (Region.ready .any ops listed = [i]) && Region.wanted oi (yielded ops a.tmps))) = true := by as_aux_lemma => kernel_rfl) :
    WD ro n P ops Q S (fuel + 1) listed a w := by
  obtain ⟨v, w', h1, h2⟩ := hx
  refine gd_one i oi hi hc ?_
  rw [h1]
  exact ⟨(h v w' h2).1, (h v w' h2).2.out⟩

/-- a store, nothing else being ready -/
theorem gdS (i : Nat) (oi : Oper) {R : World → Prop} (hi : ops[i]? = some oi) (hx : ∃ w', (execOp a.eval oi).run P w = .ok .skip w' ∧ R w')
    (h : ∀ w', R w' → S w' ∧ WD ro n P ops Q S fuel (listed.setIfInBounds i true) (a.put oi.dst undef) w')
    (hc : (plainOp oi && (decide (Region.ready .any ops listed = [i]) && Region.wanted oi (yielded ops a.tmps))) = true := by as_aux_lemma => kernel_rfl) :
    WD ro n P ops Q S (fuel + 1) listed a w := by
  obtain ⟨w', h1, h2⟩ := hx
  refine gd_one i oi hi hc ?_
  rw [h1]
  exact ⟨(h w' h2).1, (h w' h2).2.out⟩

/-- a store behind all others: the region's condition need not hold any more -/
theorem gdSz (i : Nat) (oi : Oper) {R : World → Prop} (hi : ops[i]? = some oi) (hx : ∃ w', (execOp a.eval oi).run P w = .ok .skip w' ∧ R w')
    (h : ∀ w', R w' → WD ro n P ops Q S fuel (listed.setIfInBounds i true) (a.put oi.dst undef) w')
    (hc : (isLast ops i && (plainOp oi && (decide (Region.ready .any ops listed = [i]) && Region.wanted oi (yielded ops a.tmps)))) = true := by as_aux_lemma => kernel_rfl) :
    WD ro n P ops Q S (fuel + 1) listed a w := by
  obtain ⟨w', h1, h2⟩ := hx
  rw [Bool.and_eq_true, Bool.and_eq_true, Bool.and_eq_true] at hc
  refine ⟨wpHeld_last hi (of_decide_eq_true hc.2.2.1) hc.2.2.2 hc.1 ⟨fun _ _ => trivial, ?_⟩⟩
  rw [show (FW ro).round = ro from rfl, semAt_fw hc.2.1, h1]
  exact (h w' h2).out

/-- a call, nothing else being ready -/
theorem gdC (i : Nat) (oi : Oper) {f : Nat} {args : Array Value} (R : Value → World → Prop) (hi : ops[i]? = some oi) (hx : (execOp a.eval oi).run P w = .ok (.enter f args) w)
    (hcall : Calls P f args w fun e w' => ∃ v, e = .returned v ∧ R v w')
    (h : ∀ v w', R v w' → S w' ∧ WD ro n P ops Q S fuel (listed.setIfInBounds i true) (a.put oi.dst v) w')
    (hc : (plainOp oi && (decide (Region.ready .any ops listed = [i]) && Region.wanted oi (yielded ops a.tmps))) = true := by as_aux_lemma => kernel_rfl) :
    WD ro n P ops Q S (fuel + 1) listed a w := by
  refine gd_one i oi hi hc ?_
  rw [hx]
  refine ⟨fun hd => (by cases hd), calls_in (hcall.mono ?_)⟩
  rintro e w' ⟨v, rfl, hR⟩
  exact ⟨(h v w' hR).1, (h v w' hR).2.out⟩

/-- a round, nothing else being ready -/
theorem gdY (i : Nat) (oi : Oper) {l : Nat} {args : Array Value} (R : Value → World → Prop) (hi : ops[i]? = some oi) (hx : (execOp a.eval oi).run P w = (Instr.yield l args).run P w)
    (hy : YieldAt (FW ro) (n - 1) P l args w fun e w' => ∃ v, e = .returned v ∧ R v w')
    (h : ∀ v w', R v w' → S w' ∧ WD ro n P ops Q S fuel (listed.setIfInBounds i true) (a.put oi.dst v) w')
    (hc : (plainOp oi && (decide (Region.ready .any ops listed = [i]) && Region.wanted oi (yielded ops a.tmps))) = true := by as_aux_lemma => kernel_rfl) :
    WD ro n P ops Q S (fuel + 1) listed a w := by
  obtain ⟨fn, tmps, assign, body, h1, h2⟩ := hy
  refine gd_one i oi hi hc ?_
  rw [hx, h1]
  refine ⟨fun hd => (by cases hd), h2.mono ?_⟩
  rintro e w' ⟨v, rfl, hR⟩
  exact ⟨(h v w' hR).1, (h v w' hR).2.out⟩
end

/-- a round -/
theorem gx_yield {l : Nat} {args : Array Value} (R : Value → World → Prop) (hg : gok o ops a = true) (hx : (execOp a.eval o).run P w = (Instr.yield l args).run P w)
    (hy : YieldAt (FW ro) (n - 1) P l args w fun e w' => ∃ v, e = .returned v ∧ R v w')
    (h : ∀ v w', R v w' → WL ro n P ops Q rest (a.put o.dst v) w') : WL ro n P ops Q (o :: rest) a w := by
  obtain ⟨fn, tmps, assign, body, h1, h2⟩ := hy
  unfold gok at hg
  rw [Bool.and_eq_true] at hg
  constructor
  unfold wpListIn
  rw [if_pos hg.1]
  refine ⟨fun _ _ => trivial, ?_⟩
  rw [semAt_fw hg.2, hx, h1]
  refine ⟨fun hd => (by cases hd), h2.mono ?_⟩
  rintro e w' ⟨v, rfl, hR⟩
  exact (h v w' hR).out

/-! ### a scope with a label -/
theorem gx_label {l : Nat} (h : WQ Q .normal a w) : WC ro n P (Code.label l) Q a w := ⟨wpIn_label h.out⟩
theorem gx_goto {l : Nat} (h : WQ Q (.goto l) a w) : WC ro n P (Code.goto l) Q a w := ⟨wpIn_goto h.out⟩
theorem gx_jmpN {l : Nat} {J : Act → World → Prop} (h : WQ Q .normal a w) : WQ (Exit.jump l J Q) .normal a w := ⟨h.out⟩
theorem gx_jmpR {l : Nat} {J : Act → World → Prop} (h : WQ Q .ret a w) : WQ (Exit.jump l J Q) .ret a w := ⟨h.out⟩
theorem gx_jmpE {l id : Nat} {J : Act → World → Prop} (h : WQ Q (.exit id) a w) : WQ (Exit.jump l J Q) (.exit id) a w := ⟨h.out⟩
theorem gx_jmpG {l : Nat} {J : Act → World → Prop} (h : J a w) : WQ (Exit.jump l J Q) (.goto l) a w := ⟨⟨rfl, h⟩⟩

/-- jumps ahead to one label -/
theorem gx_scope {c rest : Code} (l : Nat) (hf : findLabel c l = some rest)
    (h : ∀ J : Act → World → Prop, (∀ a w, WC none n P rest (Exit.jump l (fun _ _ => False) Q) a w → J a w) → WC none n P c (Exit.jump l J Q) a w) : WC none n P (Code.scope c) Q a w := by
  refine ⟨(wpIn_wide (n := n)).2 (wp_scope_jumps l (fun a w => WC none n P rest (Exit.jump l (fun _ _ => False) Q) a w) (fun _ _ => 0) hf ((wpIn_wide (n := n)).1 (h _ fun _ _ h => h).out) fun a w hJ => (wpIn_wide (n := n)).1 (wpIn_mono hJ.out ?_))⟩
  rintro e a w h
  cases e with
  | goto l' => exact h.2.elim
  | _ => exact h

theorem least_of {p : Nat → Prop} (h : ∃ k, p k) : ∃ k, p k ∧ ∀ j, p j → k ≤ j := by
  obtain ⟨k, hk⟩ := h
  induction k using Nat.strongRecOn with
  | _ k ih =>
    by_cases hs : ∃ j, j < k ∧ p j
    · obtain ⟨j, hj, hp⟩ := hs
      exact ih j hj hp
    · exact ⟨k, hk, fun j hj => Nat.le_of_not_lt fun hlt => hs ⟨j, hlt, hj⟩⟩

/-- a loop, by a count that goes down -/
theorem gx_loop {c : Code} (I : Nat → Act → World → Prop) (k0 : Nat) (h0 : I k0 a w)
    (round : ∀ k a w, I k a w → WC ro n P c (Exit.then (fun a' w' => ∃ k', k' < k ∧ I k' a' w') Q) a w) : WC ro n P (Code.loop c) Q a w := by
  refine ⟨wpIn_loop (fun a w => ∃ k, I k a w) (fun a w => Classical.epsilon fun k => I k a w ∧ ∀ j, I j a w → k ≤ j) ⟨k0, h0⟩ fun a w hI => ?_⟩
  have hk := Classical.epsilon_spec (least_of hI)
  refine wpIn_mono (round _ a w hk.1).out fun e a' w' h => ?_
  cases e with
  | normal =>
    obtain ⟨k', hlt, hI'⟩ := h
    have hk' := Classical.epsilon_spec (least_of (p := fun k => I k a' w') ⟨k', hI'⟩)
    exact ⟨⟨k', hI'⟩, Nat.lt_of_le_of_lt (hk'.2 k' hI') hlt⟩
  | _ => exact h

end
end Go.Proofs.YtbdhgjaoojimmaaDoor
