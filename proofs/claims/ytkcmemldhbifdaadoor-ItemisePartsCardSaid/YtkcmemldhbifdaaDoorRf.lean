/-
  A range over a function.
-/
import Derived.Test.YtkcmemldhbifdaaDoorGm
import Derived.Test.YtkcmemldhbifdaaDoorGc
namespace Go.Proofs.YtkcmemldhbifdaaDoor
open Go Go.RowKit
def objE (k : Nat) (o : Obj) : Ent where
  foot := [k]
  holds w := w.heap[k]? = some o
  loc w w' hk h := by rw [hk k (by simp)]; exact h
def feet (es : List Ent) : List Nat := es.flatMap (·.foot)
theorem mem_feet {es : List Ent} {k : Nat} : k ∈ feet es ↔ ∃ e ∈ es, k ∈ e.foot := List.mem_flatMap
theorem St.perm {bs : List Nat} {w0 w : World} {es es' : List Ent} (h : St bs w0 w es) (p : es.Perm es') : St bs w0 w es' :=
  ⟨h.but, fun e he => h.holds e (p.mem_iff.2 he), (p.pairwise_iff (fun hab k hk hk2 => hab k hk2 hk)).1 h.apart⟩
theorem St.sub {bs : List Nat} {w0 w : World} {es es' : List Ent} (h : St bs w0 w es) (p : es'.Sublist es) : St bs w0 w es' :=
  ⟨h.but, fun e he => h.holds e (p.subset he), h.apart.sublist p⟩
theorem St.lendAll {bs : List Nat} {w0 w : World} {A B : List Ent} (h : St bs w0 w (A ++ B)) : St (feet A) w w A :=
  ⟨But.refl _ _ _, fun e he => ⟨(h.holds e (List.mem_append_left _ he)).1, fun k hk => ⟨.inr (mem_feet.2 ⟨e, he, hk⟩), ((h.holds e (List.mem_append_left _ he)).2 k hk).2⟩⟩, (List.pairwise_append.1 h.apart).1⟩
theorem St.backAll {bs : List Nat} {w0 w w' : World} {A A' B : List Ent} (h : St bs w0 w (A ++ B)) (h' : St (feet A) w w' A') : St bs w0 w' (A' ++ B) := by
  have hA : ∀ k ∈ feet A, (w0.heap.size ≤ k ∨ k ∈ bs) ∧ k < w.heap.size := by
    intro k hk
    obtain ⟨e, he, hk⟩ := mem_feet.1 hk
    exact (h.holds e (List.mem_append_left _ he)).2 k hk
  have hAB : ∀ k ∈ feet A, ∀ b ∈ B, k ∉ b.foot := by
    intro k hk b hb
    obtain ⟨e, he, hk⟩ := mem_feet.1 hk
    exact (List.pairwise_append.1 h.apart).2.2 e he b hb k hk
  refine ⟨h.but.trans (h'.but.mono h.size (fun k hk hm => ?_)), fun x hx => ?_, List.pairwise_append.2 ⟨h'.apart, (List.pairwise_append.1 h.apart).2.1, fun a ha b hb k hk hk2 => ?_⟩⟩
  · rcases (hA k hm).1 with h1 | h1
    · omega
    · exact h1
  · rcases List.mem_append.1 hx with hx | hx
    · obtain ⟨h1, h2⟩ := h'.holds x hx
      refine ⟨h1, fun k hk => ⟨?_, (h2 k hk).2⟩⟩
      rcases (h2 k hk).1 with h3 | h3
      · exact .inl (Nat.le_trans h.size h3)
      · exact (hA k h3).1
    · obtain ⟨h1, h2⟩ := h.holds x (List.mem_append_right _ hx)
      exact ⟨x.loc w w' (fun k hk => h'.but.block k (h2 k hk).2 (fun hm => hAB k hm x hx hk)) h1, fun k hk => ⟨(h2 k hk).1, Nat.lt_of_lt_of_le (h2 k hk).2 h'.size⟩⟩
  · rcases ((h'.holds a ha).2 k hk).1 with h3 | h3
    · have := ((h.holds b (List.mem_append_right _ hb)).2 k hk2).2
      omega
    · exact hAB k h3 b hb hk2
theorem St.ahead {bs : List Nat} {w0 w w' : World} {es : List Ent} (h : St bs w0 w es) (hb : Below w.heap.size w w') (e : Ent) (he : e.holds w') (hf : ∀ k ∈ e.foot, w.heap.size ≤ k ∧ k < w'.heap.size) : St bs w0 w' (e :: es) :=
  (h.add hb e he hf).perm List.perm_append_comm
theorem St.obj {bs : List Nat} {w0 w : World} {es : List Ent} {k : Nat} {o : Obj} (h : St bs w0 w (objE k o :: es)) (o' : Obj) : St bs w0 (w.putObj k o') (objE k o' :: es) := by
  have hk : k < w.heap.size := (h.holds (objE k o) (by simp)).2 k (by simp [objE]) |>.2
  have hk2 : (w.putObj k o').heap[k]? = some o' := World.putObj_heap_same hk
  exact h.turn (w' := w.putObj k o') 0 (e := objE k o) rfl ⟨rfl, rfl, rfl⟩ (by simp) (fun j _ hne => World.putObj_heap_other (by simpa [objE] using hne)) (objE k o') hk2 (fun j hj => .inl hj)
def Iter {ι : Type} (P : Program) (v : Value) (enc : ι → Array Value) (items : List ι) (kp : World → Prop) : Prop :=
  ∃ gf lb, v = .func (.func gf) #[] lb ∧ (∀ args w, (callFunc gf args).run P w = .ok (.enter gf args) w) ∧
    ∀ (n l : Nat) (J : List ι → World → Prop) (Jx : World → Prop) (W : World), (∀ r W W', J r W → Below W.heap.size W W' → J r W') → (∀ W W', Jx W → Below W.heap.size W W' → Jx W') →
      (∀ x rest W1, J (x :: rest) W1 → kp W1 → YieldAt (FW none) (n - 1) P l (enc x) W1 fun e W' => (e = .returned (.bool true) ∧ J rest W' ∧ kp W') ∨ (e = .returned (.bool false) ∧ Jx W' ∧ kp W')) →
      kp W → J items W → CallsIn (FW none) n P gf (#[.func (.yield l) #[] #[]] ++ lb) W fun e W' => (∃ v, e = .returned v) ∧ (J [] W' ∨ Jx W')
def roundLeft {ι : Type} (l : Nat) (r : Obj) (W : World) (es : List Ent) (rest : List ι) (I : List ι → List Ent → Prop) (Ix : List Ent → Prop) (jump : Code) : Exit → Act → World → Prop
  | .normal, _, W' => ∃ es', St (feet (objE l r :: es)) W W' (objE l r :: es') ∧ I rest es'
  | .ret, _, W' => jump = .ret ∧ ∃ es', St (feet (objE l r :: es)) W W' (objE l r :: es') ∧ Ix es'
  | .exit t, _, W' => jump = .exit t ∧ ∃ es', St (feet (objE l r :: es)) W W' (objE l r :: es') ∧ Ix es'
  | .goto t, _, W' => jump = .goto t ∧ ∃ es', St (feet (objE l r :: es)) W W' (objE l r :: es') ∧ Ix es'
  | _, _, _ => False
theorem calls_ofM {P : Program} {f : Nat} {fn : Func} {c : Code} {args : Array Value} {w : World} {R : Ending → World → Prop} (hf : P.funcs[f]? = some fn) (hb : fn.body = some c) (a : Act)
    (ha : ({ tmps := args ++ Array.replicate (fn.ntmps - args.size) undef, defers := [] } : Act) = a)
    (h : WC none 9 P c (bodyPostM (FW none) 9 P fn R) a w) : Calls P f args w R :=
  (callsIn_wide (n := 9)).1 (callsIn_of_wp_marks (F := Fence.wide) hf hb trivial (by rw [ha]; exact h.out) rfl)
section
variable {P : Program} {fn : Func} {R : Ending → World → Prop} {n : Nat} {a : Act} {w : World}
theorem gx_finM0 (v : Value) (hd : a.defers = []) (hr : (results fn a.tmps).run P w = .ok v w) (h : R (.returned v) w) : WQ (bodyPostM (FW none) n P fn R) .ret a w := by
  constructor
  show LeavesInM _ _ _ _ _ _ a.defers _ _
  rw [hd]
  exact ⟨_, hr, h⟩
theorem gx_finM1 {bs : List Nat} {w0 : World} {D : Nat} {es : List Ent} (v : Value) (hd : a.defers = [{ target := .collected D, args := #[] }]) (hS : St bs w0 w (objE D (.deferred (some [])) :: es))
    (h : ∀ w, St bs w0 w es → (results fn a.tmps).run P w = .ok v w ∧ R (.returned v) w) : WQ (bodyPostM (FW none) n P fn R) .ret a w := by
  constructor
  show LeavesInM _ _ _ _ _ _ a.defers _ _
  rw [hd]
  have hK : w.heap[D]? = some (.deferred (some [])) := (hS.holds (objE D (.deferred (some []))) (by simp)).1
  obtain ⟨h1, h2⟩ := h _ ((hS.obj (.deferred none)).sub ((List.Sublist.refl _).cons _))
  exact ⟨by simp, .inl ⟨_, _, rfl, run_takeDeferred hK, _, h1, h2⟩⟩
end
theorem yield_mono {F : Fence} {m l : Nat} {P : Program} {args : Array Value} {W : World} {R R' : Ending → World → Prop} (h : YieldAt F m P l args W R) (hm : ∀ e w, R e w → R' e w) : YieldAt F m P l args W R' := by
  obtain ⟨fn, tmps, assign, body, h1, h2⟩ := h
  exact ⟨fn, tmps, assign, body, h1, h2.mono hm⟩
theorem callsin_of {P : Program} {n f : Nat} {fn : Func} {c : Code} {args : Array Value} {w : World} {R : Ending → World → Prop} (hf : P.funcs[f]? = some fn) (hb : fn.body = some c) (a : Act)
    (ha : ({ tmps := args ++ Array.replicate (fn.ntmps - args.size) undef, defers := [] } : Act) = a)
    (h : WC none n P c (bodyPost P fn R) a w) : CallsIn (FW none) n P f args w R :=
  callsIn_of_wp (F := FW none) hf hb trivial (by rw [ha]; exact h.out) rfl
theorem St.read {w0 w : World} {es : List Ent} (h : St [] w0 w es) {g T : Nat} {cs : List Value} (hg : w0.heap[g]? = some (.cells cs.toArray T (0, 0))) (j : Nat) {v : Value} (hj : cs[j]? = some v) : w.cell? ⟨g, j, none⟩ = some v := by
  rw [cell_of_row w g j _ T (0, 0) ((h.but.block g (own_row_lt hg) (by simp)).trans hg)]
  simpa using hj
theorem yield_out {F : Fence} {m l : Nat} {P : Program} {args : Array Value} {W : World} {A B K : World → Prop} (h : YieldAt F m P l args W fun e w => (e = .returned (.bool true) ∧ A w ∧ K w) ∨ (e = .returned (.bool false) ∧ B w ∧ K w)) :
    YieldAt F m P l args W fun e w => ∃ v, e = .returned v ∧ ((v = .bool true ∧ A w ∧ K w) ∨ (v = .bool false ∧ B w ∧ K w)) := by
  refine yield_mono h ?_
  rintro e w (⟨rfl, h⟩ | ⟨rfl, h⟩)
  · exact ⟨_, rfl, .inl ⟨rfl, h⟩⟩
  · exact ⟨_, rfl, .inr ⟨rfl, h⟩⟩
theorem gx_act {P : Program} {ro : Option Nat} {n : Nat} {c : Code} {Q : Exit → Act → World → Prop} {a : Act} {w : World} (a' : Act) (h : a = a') (h2 : WC ro n P c Q a' w) : WC ro n P c Q a w := by rw [h]; exact h2
end Go.Proofs.YtkcmemldhbifdaaDoor
