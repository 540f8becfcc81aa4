/-
  A range over a function.
-/
import Derived.Test.YtbdhgjaoojimmaaDoorGm
import Derived.Test.YtbdhgjaoojimmaaDoorGc
namespace Go.Proofs.YtbdhgjaoojimmaaDoor
open Go Go.RowKit

/-- a block that is no row of cells -/
def objE (k : Nat) (o : Obj) : Ent where
  foot := [k]
  holds w := w.heap[k]? = some o
  loc w w' hk h := by rw [hk k (by simp)]; exact h

def feet (es : List Ent) : List Nat := es.flatMap (·.foot)

theorem mem_feet {es : List Ent} {k : Nat} : k ∈ feet es ↔ ∃ e ∈ es, k ∈ e.foot := List.mem_flatMap

theorem St.perm {bs : List Nat} {w0 w : World} {es es' : List Ent} (h : St bs w0 w es) (p : es.Perm es') : St bs w0 w es' :=
  ⟨h.but, fun e he => h.holds e (p.mem_iff.2 he), (p.pairwise_iff (fun hab k hk hk2 => hab k hk2 hk)).1 h.apart⟩

theorem St.sub {bs : List Nat} {w0 w : World} {es es' : List Ent} (h : St bs w0 w es) (p : es'.Sublist es) : St bs w0 w es' :=
  ⟨h.but, fun e he => h.holds e (p.subset he), h.apart.sublist p⟩

/-- some entries are lent -/
theorem St.lendAll {bs : List Nat} {w0 w : World} {A B : List Ent} (h : St bs w0 w (A ++ B)) : St (feet A) w w A :=
  ⟨But.refl _ _ _, fun e he => ⟨(h.holds e (List.mem_append_left _ he)).1, fun k hk => ⟨.inr (mem_feet.2 ⟨e, he, hk⟩), ((h.holds e (List.mem_append_left _ he)).2 k hk).2⟩⟩, (List.pairwise_append.1 h.apart).1⟩

/-- and come back -/
theorem St.backAll {bs : List Nat} {w0 w w' : World} {A A' B : List Ent} (h : St bs w0 w (A ++ B)) (h' : St (feet A) w w' A') : St bs w0 w' (A' ++ B) := by
  have hA : ∀ k ∈ feet A, (w0.heap.size ≤ k ∨ k ∈ bs) ∧ k < w.heap.size := by
    intro k hk
    obtain ⟨e, he, hk⟩ := mem_feet.1 hk
    exact (h.holds e (List.mem_append_left _ he)).2 k hk
  have hAB : ∀ k ∈ feet A, ∀ b ∈ B, k ∉ b.foot := by
    intro k hk b hb
    obtain ⟨e, he, hk⟩ := mem_feet.1 hk
    exact (List.pairwise_append.1 h.apart).2.2 e he b hb k hk
  refine ⟨h.but.trans (h'.but.mono h.size (fun k hk hm => ?_)), fun x hx => ?_, List.pairwise_append.2 ⟨h'.apart, (List.pairwise_append.1 h.apart).2.1, fun a ha b hb k hk hk2 => ?_⟩⟩
  · rcases (hA k hm).1 with h1 | h1
    · omega
    · exact h1
  · rcases List.mem_append.1 hx with hx | hx
    · obtain ⟨h1, h2⟩ := h'.holds x hx
      refine ⟨h1, fun k hk => ⟨?_, (h2 k hk).2⟩⟩
      rcases (h2 k hk).1 with h3 | h3
      · exact .inl (Nat.le_trans h.size h3)
      · exact (hA k h3).1
    · obtain ⟨h1, h2⟩ := h.holds x (List.mem_append_right _ hx)
      exact ⟨x.loc w w' (fun k hk => h'.but.block k (h2 k hk).2 (fun hm => hAB k hm x hx hk)) h1, fun k hk => ⟨(h2 k hk).1, Nat.lt_of_lt_of_le (h2 k hk).2 h'.size⟩⟩
  · rcases ((h'.holds a ha).2 k hk).1 with h3 | h3
    · have := ((h.holds b (List.mem_append_right _ hb)).2 k hk2).2
      omega
    · exact hAB k h3 b hb hk2

/-- another entry ahead -/
theorem St.ahead {bs : List Nat} {w0 w w' : World} {es : List Ent} (h : St bs w0 w es) (hb : Below w.heap.size w w') (e : Ent) (he : e.holds w') (hf : ∀ k ∈ e.foot, w.heap.size ≤ k ∧ k < w'.heap.size) : St bs w0 w' (e :: es) :=
  (h.add hb e he hf).perm List.perm_append_comm

theorem St.obj {bs : List Nat} {w0 w : World} {es : List Ent} {k : Nat} {o : Obj} (h : St bs w0 w (objE k o :: es)) (o' : Obj) : St bs w0 (w.putObj k o') (objE k o' :: es) := by
  have hk : k < w.heap.size := (h.holds (objE k o) (by simp)).2 k (by simp [objE]) |>.2
  have hk2 : (w.putObj k o').heap[k]? = some o' := World.putObj_heap_same hk
  exact h.turn (w' := w.putObj k o') 0 (e := objE k o) rfl ⟨rfl, rfl, rfl⟩ (by simp) (fun j _ hne => World.putObj_heap_other (by simpa [objE] using hne)) (objE k o') hk2 (fun j hj => .inl hj)

/-- a function value that tells these, as long as what it reads is there -/
def Iter {ι : Type} (P : Program) (v : Value) (enc : ι → Array Value) (items : List ι) (kp : World → Prop) : Prop :=
  ∃ gf lb, v = .func (.func gf) #[] lb ∧ (∀ args w, (callFunc gf args).run P w = .ok (.enter gf args) w) ∧
    ∀ (n l : Nat) (J : List ι → World → Prop) (Jx : World → Prop) (W : World), (∀ r W W', J r W → Below W.heap.size W W' → J r W') → (∀ W W', Jx W → Below W.heap.size W W' → Jx W') →
      (∀ x rest W1, J (x :: rest) W1 → kp W1 → YieldAt (FW none) (n - 1) P l (enc x) W1 fun e W' => (e = .returned (.bool true) ∧ J rest W' ∧ kp W') ∨ (e = .returned (.bool false) ∧ Jx W' ∧ kp W')) →
      kp W → J items W → CallsIn (FW none) n P gf (#[.func (.yield l) #[] #[]] ++ lb) W fun e W' => (∃ v, e = .returned v) ∧ (J [] W' ∨ Jx W')

/-- how a round is left -/
def roundLeft {ι : Type} (l : Nat) (r : Obj) (W : World) (es : List Ent) (rest : List ι) (I : List ι → List Ent → Prop) (Ix : List Ent → Prop) (jump : Code) : Exit → Act → World → Prop
  | .normal, _, W' => ∃ es', St (feet (objE l r :: es)) W W' (objE l r :: es') ∧ I rest es'
  | .ret, _, W' => jump = .ret ∧ ∃ es', St (feet (objE l r :: es)) W W' (objE l r :: es') ∧ Ix es'
  | .exit t, _, W' => jump = .exit t ∧ ∃ es', St (feet (objE l r :: es)) W W' (objE l r :: es') ∧ Ix es'
  | .goto t, _, W' => jump = .goto t ∧ ∃ es', St (feet (objE l r :: es)) W W' (objE l r :: es') ∧ Ix es'
  | _, _, _ => False

theorem gx_range {ι : Type} {P : Program} {n : Nat} {Q : Exit → Act → World → Prop} {a : Act} {w : World} {g : Operand} {ps : Array Tmp} {assign body : Code} {bs : List Nat} {w0 : World} {v : Value} {enc : ι → Array Value} {items : List ι} {kp : World → Prop} {es ks : List Ent}
    (hv : a.eval g = v) (hit : Iter P v enc items kp) (hps : ∀ x, (enc x).size = ps.size)
    (hst : St bs w0 w (es ++ ks)) (hkp : ∀ W es', St bs w0 W (es' ++ ks) → kp W)
    (I : List ι → List Ent → Prop) (Ix : List Ent → Prop) (jump : Code) (h0 : I items es)
    (hround : ∀ (l : Nat) (r1 r2 : Obj) (x : ι) (rest : List ι) (W : World) (es : List Ent), I (x :: rest) es → St (feet (objE l r1 :: es)) W W (objE l r1 :: es) →
      WC (some l) (n - 1 - 1) P assign (Exit.then (fun a' W' => ∃ es1, St (feet (objE l r1 :: es)) W W' (objE l r1 :: es1) ∧ ∀ W2, St (feet (objE l r1 :: es)) W W2 (objE l r2 :: es1) →
        WC (some l) (n - 1 - 1) P body (roundLeft l r2 W es rest I Ix jump) a' W2) (fun _ _ _ => False)) { tmps := (ps.zip (enc x)).foldl (fun t (p, v) => t.setIfInBounds p v) a.tmps, defers := [] } W)
    (hdone : ∀ D W es', I [] es' → St bs w0 W (objE D (.deferred (some [])) :: es' ++ ks) → WQ Q .normal { a with defers := { target := .collected D, args := #[] } :: a.defers } W)
    (hstop : ∀ D W es', Ix es' → St bs w0 W (objE D (.deferred (some [])) :: es' ++ ks) → WC none n P jump Q { a with defers := { target := .collected D, args := #[] } :: a.defers } W) :
    WC none n P (Code.rangeFunc g ps assign body) Q a w := by
  obtain ⟨gf, lb, rfl, eg, hit⟩ := hit
  constructor
  refine wpIn_rangeFunc ?_
  intro fn hfn
  obtain ⟨rec, hrec⟩ : ∃ rec : LoopState → Option Code → Loop, rec = fun st pe => { state := st, pending := pe, fn, tmps := a.tmps, params := ps, assign, body, defers := w.heap.size } := ⟨_, rfl⟩
  obtain ⟨D, hD⟩ : ∃ D, D = w.heap.size := ⟨_, rfl⟩
  obtain ⟨l, hl⟩ : ∃ l, l = w.heap.size + 1 := ⟨_, rfl⟩
  obtain ⟨W1, hW1⟩ : ∃ W1, W1 = (w.alloc (.deferred (some []))).alloc (.loop (rec .ready none)) := ⟨_, rfl⟩
  have hS1 : St bs w0 W1 (objE l (.loop (rec .ready none)) :: objE D (.deferred (some [])) :: (es ++ ks)) := by
    have s1 : St bs w0 (w.alloc (.deferred (some []))) (objE D (.deferred (some [])) :: (es ++ ks)) :=
      hst.ahead ((Below.refl _ w).alloc (Nat.le_refl _) _) _ (by rw [hD]; exact World.alloc_heap_new w _) (fun k hk => by simp [objE] at hk; subst hk; rw [hD]; simp)
    rw [hW1]
    exact s1.ahead ((Below.refl _ _).alloc (Nat.le_refl _) _) _ (by rw [hl]; have := World.alloc_heap_new (w.alloc (.deferred (some []))) (.loop (rec .ready none)); rwa [World.size_alloc] at this) (fun k hk => by simp [objE] at hk; subst hk; rw [hl]; simp)
  refine ⟨l, [{ target := .collected D, args := #[] }], W1, { target := .fn (.func gf) lb, args := #[.func (.yield l) #[] #[]] }, W1, gf, #[.func (.yield l) #[] #[]] ++ lb, W1, ?_, ?_, fun _ _ => trivial, ?_, fun h => (by cases h), ?_⟩
  · rw [hW1, hrec, hl, hD]; exact run_enterLoop_outer _ _ _ _ _
  · simp only [resolve, hv]
    simp [go_sem]
  · simp [invoke, go_sem, eg]
  · refine (hit (n - 1) l (fun rest W => ∃ es', I rest es' ∧ St bs w0 W (objE l (.loop (rec .ready none)) :: objE D (.deferred (some [])) :: (es' ++ ks)))
      (fun W => ∃ es', Ix es' ∧ St bs w0 W (objE l (.loop (rec .done (some jump))) :: objE D (.deferred (some [])) :: (es' ++ ks))) W1
      (fun r W W' h hb => by obtain ⟨es', h1, h2⟩ := h; exact ⟨es', h1, h2.stay hb⟩) (fun W W' h hb => by obtain ⟨es', h1, h2⟩ := h; exact ⟨es', h1, h2.stay hb⟩) ?_ (hkp W1 es (hS1.sub ((List.Sublist.refl _).cons _ |>.cons _))) ⟨es, h0, hS1⟩).mono ?_
    · rintro x rest W ⟨es', hI, hS⟩ _
      have hlW : W.heap[l]? = some (.loop (rec .ready none)) := (hS.holds (objE l (.loop (rec .ready none))) (by simp)).1
      have hy := run_yield (P := P) (args := enc x) hlW (by rw [hrec]; exact hps x)
      rw [hrec] at hy
      refine ⟨fn, _, assign, body, hy, roundIn_of_wpIn hfn ?_⟩
      clear hy
      obtain ⟨B, hB⟩ : ∃ B, B = objE D (.deferred (some [])) :: ks := ⟨_, rfl⟩
      have hperm : ∀ (r : Obj) (es' : List Ent), (objE l r :: objE D (.deferred (some [])) :: (es' ++ ks)).Perm ((objE l r :: es') ++ B) := by
        intro r es'
        rw [hB]
        refine List.Perm.cons _ ?_
        exact (List.perm_middle (l₁ := es') (l₂ := ks) (a := objE D (.deferred (some [])))).symm
      have hS2 := hS.perm (hperm _ es')
      refine wpIn_mono (hround l (.loop (rec .ready none)) (.loop { rec .ready none with state := .busy }) x rest W es' hI hS2.lendAll).out ?_
      rintro e a' W' hp
      cases e with
      | normal =>
        obtain ⟨es1, h1, h2⟩ := hp
        have hl1 : W'.heap[l]? = some (.loop (rec .ready none)) := (h1.holds (objE l (.loop (rec .ready none))) (by simp)).1
        refine ⟨_, run_beginRound hl1 (by rw [hrec]), wpIn_mono (h2 _ (h1.obj _)).out ?_⟩
        have fin : ∀ (jump : Option Code) (W3 : World) (es3 : List Ent), St (feet (objE l (.loop (rec .ready none)) :: es')) W W3 (objE l (.loop { rec .ready none with state := .busy }) :: es3) →
            (Instr.endRound l jump).run P W3 = .ok (.bool jump.isNone) (W3.putObj l (.loop (rec (if jump.isNone then .ready else .done) jump))) ∧
            St bs w0 (W3.putObj l (.loop (rec (if jump.isNone then .ready else .done) jump))) (objE l (.loop (rec (if jump.isNone then .ready else .done) jump)) :: objE D (.deferred (some [])) :: (es3 ++ ks)) := by
          intro jump W3 es3 h3
          have hl3 : W3.heap[l]? = some (.loop { rec .ready none with state := .busy }) := (h3.holds (objE l (.loop { rec .ready none with state := .busy })) (by simp)).1
          refine ⟨?_, (hS2.backAll (h3.obj _)).perm (hperm _ es3).symm⟩
          have := run_endRound (P := P) jump hl3
          rw [hrec] at this ⊢
          exact this
        rintro e a3 W3 hp
        cases e with
        | normal =>
          obtain ⟨es3, h3, h4⟩ := hp
          obtain ⟨hr, hs⟩ := fin none W3 es3 h3
          exact ⟨_, _, hr, .inl ⟨rfl, ⟨es3, h4, hs⟩, hkp _ es3 (hs.sub ((List.Sublist.refl _).cons _ |>.cons _))⟩⟩
        | ret =>
          obtain ⟨rfl, es3, h3, h4⟩ := hp
          obtain ⟨hr, hs⟩ := fin (some .ret) W3 es3 h3
          exact ⟨_, _, hr, .inr ⟨rfl, ⟨es3, h4, hs⟩, hkp _ es3 (hs.sub ((List.Sublist.refl _).cons _ |>.cons _))⟩⟩
        | exit id =>
          obtain ⟨rfl, es3, h3, h4⟩ := hp
          obtain ⟨hr, hs⟩ := fin (some (.exit id)) W3 es3 h3
          exact ⟨_, _, hr, .inr ⟨rfl, ⟨es3, h4, hs⟩, hkp _ es3 (hs.sub ((List.Sublist.refl _).cons _ |>.cons _))⟩⟩
        | goto t =>
          obtain ⟨rfl, es3, h3, h4⟩ := hp
          obtain ⟨hr, hs⟩ := fin (some (.goto t)) W3 es3 h3
          exact ⟨_, _, hr, .inr ⟨rfl, ⟨es3, h4, hs⟩, hkp _ es3 (hs.sub ((List.Sublist.refl _).cons _ |>.cons _))⟩⟩
        | panic ch => exact hp.elim
        | outgrown => exact hp.elim
      | _ => exact hp.elim
    · rintro e W2 ⟨⟨v, rfl⟩, (⟨es', hI, hS⟩ | ⟨es', hI, hS⟩)⟩
      · have hl2 : W2.heap[l]? = some (.loop (rec .ready none)) := (hS.holds (objE l (.loop (rec .ready none))) (by simp)).1
        have hr := run_endLoop (P := P) hl2 (by rw [hrec]; simp)
        rw [hrec] at hr
        exact ⟨none, _, hr, (hdone D _ es' hI ((hS.obj _).sub ((List.Sublist.refl _).cons _))).out⟩
      · have hl2 : W2.heap[l]? = some (.loop (rec .done (some jump))) := (hS.holds (objE l (.loop (rec .done (some jump)))) (by simp)).1
        have hr := run_endLoop (P := P) hl2 (by rw [hrec]; simp)
        rw [hrec] at hr
        exact ⟨some jump, _, hr, (hstop D _ es' hI ((hS.obj _).sub ((List.Sublist.refl _).cons _))).out⟩

/-! ### a function that holds a range over a function -/
theorem calls_ofM {P : Program} {f : Nat} {fn : Func} {c : Code} {args : Array Value} {w : World} {R : Ending → World → Prop} (hf : P.funcs[f]? = some fn) (hb : fn.body = some c) (a : Act)
    (ha : ({ tmps := args ++ Array.replicate (fn.ntmps - args.size) undef, defers := [] } : Act) = a)
    (h : WC none 9 P c (bodyPostM (FW none) 9 P fn R) a w) : Calls P f args w R :=
  (callsIn_wide (n := 9)).1 (callsIn_of_wp_marks (F := Fence.wide) hf hb trivial (by rw [ha]; exact h.out) rfl)

section
variable {P : Program} {fn : Func} {R : Ending → World → Prop} {n : Nat} {a : Act} {w : World}
theorem gx_finM0 (v : Value) (hd : a.defers = []) (hr : (results fn a.tmps).run P w = .ok v w) (h : R (.returned v) w) : WQ (bodyPostM (FW none) n P fn R) .ret a w := by
  constructor
  show LeavesInM _ _ _ _ _ _ a.defers _ _
  rw [hd]
  exact ⟨_, hr, h⟩

theorem gx_finM1 {bs : List Nat} {w0 : World} {D : Nat} {es : List Ent} (v : Value) (hd : a.defers = [{ target := .collected D, args := #[] }]) (hS : St bs w0 w (objE D (.deferred (some [])) :: es))
    (h : ∀ w, St bs w0 w es → (results fn a.tmps).run P w = .ok v w ∧ R (.returned v) w) : WQ (bodyPostM (FW none) n P fn R) .ret a w := by
  constructor
  show LeavesInM _ _ _ _ _ _ a.defers _ _
  rw [hd]
  have hK : w.heap[D]? = some (.deferred (some [])) := (hS.holds (objE D (.deferred (some []))) (by simp)).1
  obtain ⟨h1, h2⟩ := h _ ((hS.obj (.deferred none)).sub ((List.Sublist.refl _).cons _))
  exact ⟨by simp, .inl ⟨_, _, rfl, run_takeDeferred hK, _, h1, h2⟩⟩
end

/-! ### iterators as values -/
theorem yield_mono {F : Fence} {m l : Nat} {P : Program} {args : Array Value} {W : World} {R R' : Ending → World → Prop} (h : YieldAt F m P l args W R) (hm : ∀ e w, R e w → R' e w) : YieldAt F m P l args W R' := by
  obtain ⟨fn, tmps, assign, body, h1, h2⟩ := h
  exact ⟨fn, tmps, assign, body, h1, h2.mono hm⟩

theorem callsin_of {P : Program} {n f : Nat} {fn : Func} {c : Code} {args : Array Value} {w : World} {R : Ending → World → Prop} (hf : P.funcs[f]? = some fn) (hb : fn.body = some c) (a : Act)
    (ha : ({ tmps := args ++ Array.replicate (fn.ntmps - args.size) undef, defers := [] } : Act) = a)
    (h : WC none n P c (bodyPost P fn R) a w) : CallsIn (FW none) n P f args w R :=
  callsIn_of_wp (F := FW none) hf hb trivial (by rw [ha]; exact h.out) rfl

/-- what is read lies in a box that nobody turns -/
theorem St.read {w0 w : World} {es : List Ent} (h : St [] w0 w es) {g T : Nat} {cs : List Value} (hg : w0.heap[g]? = some (.cells cs.toArray T (0, 0))) (j : Nat) {v : Value} (hj : cs[j]? = some v) : w.cell? ⟨g, j, none⟩ = some v := by
  rw [cell_of_row w g j _ T (0, 0) ((h.but.block g (own_row_lt hg) (by simp)).trans hg)]
  simpa using hj

theorem Iter.weaken {ι : Type} {P : Program} {v : Value} {enc : ι → Array Value} {items : List ι} {kp kp' : World → Prop} (h : Iter P v enc items kp) (hk : ∀ W, kp' W → kp W) (hab : ∀ W W', kp' W → Below W.heap.size W W' → kp' W') : Iter P v enc items kp' := by
  obtain ⟨gf, lb, rfl, eg, h⟩ := h
  refine ⟨gf, lb, rfl, eg, fun n l J Jx W hJ hJx hY hkp h0 => ?_⟩
  refine (h n l (fun r W => J r W ∧ kp' W) Jx W (fun r W W' h hb => ⟨hJ r W W' h.1 hb, hab W W' h.2 hb⟩) hJx (fun x rest W1 hj _ => ?_) (hk W hkp) ⟨h0, hkp⟩).mono ?_
  · refine yield_mono (hY x rest W1 hj.1 hj.2) ?_
    rintro e w (⟨rfl, h1, h2⟩ | ⟨rfl, h1, h2⟩)
    · exact .inl ⟨rfl, ⟨h1, h2⟩, hk w h2⟩
    · exact .inr ⟨rfl, h1, hk w h2⟩
  · rintro e w ⟨h1, (h2 | h2)⟩
    · exact ⟨h1, .inl h2.1⟩
    · exact ⟨h1, .inr h2⟩

/-- these blocks are as they were in that world -/
def agreeE (ft : List Nat) (w : World) : Ent where
  foot := ft
  holds W := ∀ k ∈ ft, k < w.heap.size ∧ W.heap[k]? = w.heap[k]?
  loc _ _ hk h := fun k hm => ⟨(h k hm).1, (hk k hm).trans (h k hm).2⟩

/-- a function value that tells these items; none: no function -/
def iterE {ι : Type} (P : Program) (v : Value) (enc : ι → Array Value) (its : Option (List ι)) (ft : List Nat) : Ent where
  foot := ft
  holds w := match its with
    | none => True
    | some items => Iter P v enc items (agreeE ft w).holds
  loc w w' hk h := by
    cases its with
    | none => trivial
    | some items =>
      have h : Iter P v enc items (agreeE ft w).holds := h
      show Iter P v enc items (agreeE ft w').holds
      by_cases hlt : ∀ k ∈ ft, k < w.heap.size
      · refine h.weaken (fun W hW k hm => ⟨hlt k hm, (hW k hm).2.trans (hk k hm)⟩) (fun W W' hW hb k hm => ⟨(hW k hm).1, ?_⟩)
        refine (hb.block k ?_).trans (hW k hm).2
        have h1 := (hW k hm).1
        have h2 := (hW k hm).2
        rcases Nat.lt_or_ge k W.heap.size with h' | h'
        · exact h'
        · rw [Array.getElem?_eq_none h', Array.getElem?_eq_getElem h1] at h2; cases h2
      · refine h.weaken (fun W hW k hm => ?_) (fun _ _ hW _ => ?_)
        · exfalso
          refine hlt fun k hm => ?_
          have h1 := (hW k hm).1
          have h2 := hk k hm
          rcases Nat.lt_or_ge k w.heap.size with h' | h'
          · exact h'
          · rw [Array.getElem?_eq_none h', Array.getElem?_eq_getElem h1] at h2; cases h2
        · exfalso
          refine hlt fun k hm => ?_
          have h1 := (hW k hm).1
          have h2 := hk k hm
          rcases Nat.lt_or_ge k w.heap.size with h' | h'
          · exact h'
          · rw [Array.getElem?_eq_none h', Array.getElem?_eq_getElem h1] at h2; cases h2

theorem agree_self {w : World} {ft : List Nat} (h : ∀ k ∈ ft, k < w.heap.size) : (agreeE ft w).holds w := fun k hm => ⟨h k hm, rfl⟩

/-- an entry told otherwise -/
theorem St.alter {bs : List Nat} {w0 w : World} {es es2 : List Ent} {e e' : Ent} (h : St bs w0 w (es ++ e :: es2)) (he : e'.holds w) (hf : e'.foot = e.foot) : St bs w0 w (es ++ e' :: es2) := by
  refine ⟨h.but, fun x hx => ?_, ?_⟩
  · rcases List.mem_append.1 hx with h1 | h1
    · exact h.holds x (List.mem_append_left _ h1)
    · rcases List.mem_cons.1 h1 with rfl | h1
      · exact ⟨he, by rw [hf]; exact (h.holds e (by simp)).2⟩
      · exact h.holds x (List.mem_append_right _ (List.mem_cons_of_mem _ h1))
  · have hp := h.apart
    rw [List.pairwise_append, List.pairwise_cons] at hp ⊢
    refine ⟨hp.1, ⟨fun b hb => by rw [hf]; exact hp.2.1.1 b hb, hp.2.1.2⟩, fun a ha b hb => ?_⟩
    rcases List.mem_cons.1 hb with rfl | hb
    · rw [hf]; exact hp.2.2 a ha e (by simp)
    · exact hp.2.2 a ha b (List.mem_cons_of_mem _ hb)

/-- some entries as one -/
def packE (es : List Ent) : Ent where
  foot := feet es
  holds w := ∀ e ∈ es, e.holds w
  loc w w' hk h := fun e he => e.loc w w' (fun k hm => hk k (mem_feet.2 ⟨e, he, hm⟩)) (h e he)

theorem St.pack {bs : List Nat} {w0 w : World} {A B : List Ent} (h : St bs w0 w (A ++ B)) : St bs w0 w (packE A :: B) := by
  have hp := List.pairwise_append.1 h.apart
  refine ⟨h.but, fun x hx => ?_, List.pairwise_cons.2 ⟨fun b hb k hk => ?_, hp.2.1⟩⟩
  · rcases List.mem_cons.1 hx with rfl | hx
    · refine ⟨fun e he => (h.holds e (List.mem_append_left _ he)).1, fun k hk => ?_⟩
      obtain ⟨e, he, hk⟩ := mem_feet.1 hk
      exact (h.holds e (List.mem_append_left _ he)).2 k hk
    · exact h.holds x (List.mem_append_right _ hx)
  · obtain ⟨e, he, hk⟩ := mem_feet.1 hk
    exact hp.2.2 e he b hb k hk

/-- a function value, with all that it reads, is an iterator -/
theorem St.toIter {ι : Type} {P : Program} {bs : List Nat} {w0 w : World} {A B : List Ent} {v : Value} {enc : ι → Array Value} {items : List ι} {kp : World → Prop} (h : St bs w0 w (A ++ B)) (hit : Iter P v enc items kp) (hk : ∀ W, (packE A).holds W → kp W) :
    St bs w0 w (iterE P v enc (some items) (feet A) :: B) := by
  have hp := h.pack
  refine St.alter (es := []) hp ?_ rfl
  show Iter P v enc items (agreeE (feet A) w).holds
  have h0 := (hp.holds (packE A) (by simp)).1
  refine hit.weaken (fun W hW => hk W ((packE A).loc w W (fun k hm => (hW k hm).2) h0)) (fun W W' hW hb k hm => ⟨(hW k hm).1, ?_⟩)
  refine (hb.block k ?_).trans (hW k hm).2
  have h1 := (hW k hm).1
  have h2 := (hW k hm).2
  rcases Nat.lt_or_ge k W.heap.size with h' | h'
  · exact h'
  · rw [Array.getElem?_eq_none h', Array.getElem?_eq_getElem h1] at h2; cases h2

theorem St.noIter {ι : Type} {bs : List Nat} {w0 w : World} {es : List Ent} (h : St bs w0 w es) (P : Program) (v : Value) (enc : ι → Array Value) : St bs w0 w (es ++ [iterE P v enc none []]) :=
  h.add (Below.refl _ w) _ trivial (fun k hk => by simp [iterE] at hk)

/-- an iterator that is to be ranged over -/
theorem St.ranged {ι : Type} {P : Program} {bs : List Nat} {w0 w : World} {es : List Ent} {v : Value} {enc : ι → Array Value} {items : List ι} {ft : List Nat} (h : St bs w0 w (es ++ [iterE P v enc (some items) ft])) :
    St bs w0 w (es ++ [agreeE ft w]) ∧ Iter P v enc items (agreeE ft w).holds := by
  have h1 := h.holds (iterE P v enc (some items) ft) (by simp)
  exact ⟨h.alter (agree_self fun k hm => (h1.2 k hm).2) rfl, h1.1⟩

theorem agree_kp {bs : List Nat} {w0 w : World} {ft : List Nat} (W : World) (es' : List Ent) (h : St bs w0 W (es' ++ [agreeE ft w])) : (agreeE ft w).holds W := (h.holds (agreeE ft w) (by simp)).1

theorem yield_out {F : Fence} {m l : Nat} {P : Program} {args : Array Value} {W : World} {A B K : World → Prop} (h : YieldAt F m P l args W fun e w => (e = .returned (.bool true) ∧ A w ∧ K w) ∨ (e = .returned (.bool false) ∧ B w ∧ K w)) :
    YieldAt F m P l args W fun e w => ∃ v, e = .returned v ∧ ((v = .bool true ∧ A w ∧ K w) ∨ (v = .bool false ∧ B w ∧ K w)) := by
  refine yield_mono h ?_
  rintro e w (⟨rfl, h⟩ | ⟨rfl, h⟩)
  · exact ⟨_, rfl, .inl ⟨rfl, h⟩⟩
  · exact ⟨_, rfl, .inr ⟨rfl, h⟩⟩

theorem run_yieldcall {P : Program} {w : World} {o : Oper} {ρ : Operand → Value} {x y : Operand} {T l : Nat} {v : Value} (ho : o.op = .call { callee := .value x, args := #[y], argTypes := #[T] }) (hx : ρ x = .func (.yield l) #[] #[]) (hy : ρ y = v) :
    (execOp ρ o).run P w = (Instr.yield l #[v]).run P w := by
  unfold execOp
  simp [ho, resolve, hx, hy, invoke, go_sem]

theorem gx_act {P : Program} {ro : Option Nat} {n : Nat} {c : Code} {Q : Exit → Act → World → Prop} {a : Act} {w : World} (a' : Act) (h : a = a') (h2 : WC ro n P c Q a' w) : WC ro n P c Q a w := by rw [h]; exact h2

end Go.Proofs.YtbdhgjaoojimmaaDoor
