/-
  A range over a function, in a function that holds lent things and views.
-/
import Derived.Test.YtbdhgjaoojimmaaDoorGu
import Derived.Test.YtbdhgjaoojimmaaDoorRf
namespace Go.Proofs.YtbdhgjaoojimmaaDoor
open Go Go.RowKit
set_option linter.unusedVariables false
set_option linter.unusedSimpArgs false

/-- some entries are lent to a round -/
theorem St.feetP {bs : List Nat} {w0 w : World} {A B : List Ent} (h : St bs w0 w (A ++ B)) : St (feet A) w w A := h.lendAll
theorem St.vwR {bs : List Nat} {w0 w : World} {A B : List Ent} (h : St bs w0 w (A ++ B)) {k : IntKind} {X : Option Addr} {c : Nat} {l : List Int} (hv : Vw bs k w0 X c l) : Vw (feet A) k w X c l := h.vwA hv
theorem gx_rangeV {ι : Type} {P : Program} {n : Nat} {Q : Exit → Act → World → Prop} {a : Act} {w : World} {g : Operand} {ps : Array Tmp} {assign body : Code} {bs : List Nat} {w0 : World} {v : Value} {enc : ι → Array Value} {items : List ι} {kp : World → Prop} {es ks : List Ent}
    (hv : a.eval g = v) (hit : Iter P v enc items kp) (hps : ∀ x, (enc x).size = ps.size)
    (hst : St bs w0 w (es ++ ks)) (I : List ι → List Ent → Prop) (Ix : List Ent → Prop)
    (hkp : ∀ W es', ((∃ r, I r es') ∨ Ix es') → St bs w0 W (es' ++ ks) → kp W) (jump : Code) (h0 : I items es)
    (hround : ∀ (l : Nat) (r1 r2 : Obj) (x : ι) (rest : List ι) (W : World) (es : List Ent), I (x :: rest) es → ∀ D : Nat, St bs w0 W ((objE l r1 :: es) ++ (objE D (.deferred (some [])) :: ks)) →
      WC (some l) (n - 1 - 1) P assign (Exit.then (fun a' W' => ∃ es1, St (feet (objE l r1 :: es)) W W' (objE l r1 :: es1) ∧ ∀ W2, St (feet (objE l r1 :: es)) W W2 (objE l r2 :: es1) →
        WC (some l) (n - 1 - 1) P body (roundLeft l r2 W es rest I Ix jump) a' W2) (fun _ _ _ => False)) { tmps := (ps.zip (enc x)).foldl (fun t (p, v) => t.setIfInBounds p v) a.tmps, defers := [] } W)
    (hdone : ∀ D W es', I [] es' → St bs w0 W (objE D (.deferred (some [])) :: es' ++ ks) → WQ Q .normal { a with defers := { target := .collected D, args := #[] } :: a.defers } W)
    (hstop : ∀ D W es', Ix es' → St bs w0 W (objE D (.deferred (some [])) :: es' ++ ks) → WC none n P jump Q { a with defers := { target := .collected D, args := #[] } :: a.defers } W) :
    WC none n P (Code.rangeFunc g ps assign body) Q a w := by
  obtain ⟨gf, lb, rfl, eg, hit⟩ := hit
  constructor
  refine wpIn_rangeFunc ?_
  intro fn hfn
  obtain ⟨rec, hrec⟩ : ∃ rec : LoopState → Option Code → Loop, rec = fun st pe => { state := st, pending := pe, fn, tmps := a.tmps, params := ps, assign, body, defers := w.heap.size } := ⟨_, rfl⟩
  obtain ⟨D, hD⟩ : ∃ D, D = w.heap.size := ⟨_, rfl⟩
  obtain ⟨l, hl⟩ : ∃ l, l = w.heap.size + 1 := ⟨_, rfl⟩
  obtain ⟨W1, hW1⟩ : ∃ W1, W1 = (w.alloc (.deferred (some []))).alloc (.loop (rec .ready none)) := ⟨_, rfl⟩
  have hS1 : St bs w0 W1 (objE l (.loop (rec .ready none)) :: objE D (.deferred (some [])) :: (es ++ ks)) := by
    have s1 : St bs w0 (w.alloc (.deferred (some []))) (objE D (.deferred (some [])) :: (es ++ ks)) :=
      hst.ahead ((Below.refl _ w).alloc (Nat.le_refl _) _) _ (by rw [hD]; exact World.alloc_heap_new w _) (fun k hk => by simp [objE] at hk; subst hk; rw [hD]; simp)
    rw [hW1]
    exact s1.ahead ((Below.refl _ _).alloc (Nat.le_refl _) _) _ (by rw [hl]; have := World.alloc_heap_new (w.alloc (.deferred (some []))) (.loop (rec .ready none)); rwa [World.size_alloc] at this) (fun k hk => by simp [objE] at hk; subst hk; rw [hl]; simp)
  refine ⟨l, [{ target := .collected D, args := #[] }], W1, { target := .fn (.func gf) lb, args := #[.func (.yield l) #[] #[]] }, W1, gf, #[.func (.yield l) #[] #[]] ++ lb, W1, ?_, ?_, fun _ _ => trivial, ?_, fun h => (by cases h), ?_⟩
  · rw [hW1, hrec, hl, hD]; exact run_enterLoop_outer _ _ _ _ _
  · simp only [resolve, hv]
    simp [go_sem]
  · simp [invoke, go_sem, eg]
  · refine (hit (n - 1) l (fun rest W => ∃ es', I rest es' ∧ St bs w0 W (objE l (.loop (rec .ready none)) :: objE D (.deferred (some [])) :: (es' ++ ks)))
      (fun W => ∃ es', Ix es' ∧ St bs w0 W (objE l (.loop (rec .done (some jump))) :: objE D (.deferred (some [])) :: (es' ++ ks))) W1
      (fun r W W' h hb => by obtain ⟨es', h1, h2⟩ := h; exact ⟨es', h1, h2.stay hb⟩) (fun W W' h hb => by obtain ⟨es', h1, h2⟩ := h; exact ⟨es', h1, h2.stay hb⟩) ?_ (hkp W1 es (.inl ⟨_, h0⟩) (hS1.sub ((List.Sublist.refl _).cons _ |>.cons _))) ⟨es, h0, hS1⟩).mono ?_
    · rintro x rest W ⟨es', hI, hS⟩ _
      have hlW : W.heap[l]? = some (.loop (rec .ready none)) := (hS.holds (objE l (.loop (rec .ready none))) (by simp)).1
      have hy := run_yield (P := P) (args := enc x) hlW (by rw [hrec]; exact hps x)
      rw [hrec] at hy
      refine ⟨fn, _, assign, body, hy, roundIn_of_wpIn hfn ?_⟩
      clear hy
      obtain ⟨B, hB⟩ : ∃ B, B = objE D (.deferred (some [])) :: ks := ⟨_, rfl⟩
      have hperm : ∀ (r : Obj) (es' : List Ent), (objE l r :: objE D (.deferred (some [])) :: (es' ++ ks)).Perm ((objE l r :: es') ++ B) := by
        intro r es'
        rw [hB]
        refine List.Perm.cons _ ?_
        exact (List.perm_middle (l₁ := es') (l₂ := ks) (a := objE D (.deferred (some [])))).symm
      have hS2 := hS.perm (hperm _ es')
      refine wpIn_mono (hround l (.loop (rec .ready none)) (.loop { rec .ready none with state := .busy }) x rest W es' hI D (by rw [hB] at hS2; exact hS2)).out ?_
      rintro e a' W' hp
      cases e with
      | normal =>
        obtain ⟨es1, h1, h2⟩ := hp
        have hl1 : W'.heap[l]? = some (.loop (rec .ready none)) := (h1.holds (objE l (.loop (rec .ready none))) (by simp)).1
        refine ⟨_, run_beginRound hl1 (by rw [hrec]), wpIn_mono (h2 _ (h1.obj _)).out ?_⟩
        have fin : ∀ (jump : Option Code) (W3 : World) (es3 : List Ent), St (feet (objE l (.loop (rec .ready none)) :: es')) W W3 (objE l (.loop { rec .ready none with state := .busy }) :: es3) →
            (Instr.endRound l jump).run P W3 = .ok (.bool jump.isNone) (W3.putObj l (.loop (rec (if jump.isNone then .ready else .done) jump))) ∧
            St bs w0 (W3.putObj l (.loop (rec (if jump.isNone then .ready else .done) jump))) (objE l (.loop (rec (if jump.isNone then .ready else .done) jump)) :: objE D (.deferred (some [])) :: (es3 ++ ks)) := by
          intro jump W3 es3 h3
          have hl3 : W3.heap[l]? = some (.loop { rec .ready none with state := .busy }) := (h3.holds (objE l (.loop { rec .ready none with state := .busy })) (by simp)).1
          refine ⟨?_, (hS2.backAll (h3.obj _)).perm (hperm _ es3).symm⟩
          have := run_endRound (P := P) jump hl3
          rw [hrec] at this ⊢
          exact this
        rintro e a3 W3 hp
        cases e with
        | normal =>
          obtain ⟨es3, h3, h4⟩ := hp
          obtain ⟨hr, hs⟩ := fin none W3 es3 h3
          exact ⟨_, _, hr, .inl ⟨rfl, ⟨es3, h4, hs⟩, hkp _ es3 (.inl ⟨_, h4⟩) (hs.sub ((List.Sublist.refl _).cons _ |>.cons _))⟩⟩
        | ret =>
          obtain ⟨rfl, es3, h3, h4⟩ := hp
          obtain ⟨hr, hs⟩ := fin (some .ret) W3 es3 h3
          exact ⟨_, _, hr, .inr ⟨rfl, ⟨es3, h4, hs⟩, hkp _ es3 (.inr h4) (hs.sub ((List.Sublist.refl _).cons _ |>.cons _))⟩⟩
        | exit id =>
          obtain ⟨rfl, es3, h3, h4⟩ := hp
          obtain ⟨hr, hs⟩ := fin (some (.exit id)) W3 es3 h3
          exact ⟨_, _, hr, .inr ⟨rfl, ⟨es3, h4, hs⟩, hkp _ es3 (.inr h4) (hs.sub ((List.Sublist.refl _).cons _ |>.cons _))⟩⟩
        | goto t =>
          obtain ⟨rfl, es3, h3, h4⟩ := hp
          obtain ⟨hr, hs⟩ := fin (some (.goto t)) W3 es3 h3
          exact ⟨_, _, hr, .inr ⟨rfl, ⟨es3, h4, hs⟩, hkp _ es3 (.inr h4) (hs.sub ((List.Sublist.refl _).cons _ |>.cons _))⟩⟩
        | panic ch => exact hp.elim
        | outgrown => exact hp.elim
      | _ => exact hp.elim
    · rintro e W2 ⟨⟨v, rfl⟩, (⟨es', hI, hS⟩ | ⟨es', hI, hS⟩)⟩
      · have hl2 : W2.heap[l]? = some (.loop (rec .ready none)) := (hS.holds (objE l (.loop (rec .ready none))) (by simp)).1
        have hr := run_endLoop (P := P) hl2 (by rw [hrec]; simp)
        rw [hrec] at hr
        exact ⟨none, _, hr, (hdone D _ es' hI ((hS.obj _).sub ((List.Sublist.refl _).cons _))).out⟩
      · have hl2 : W2.heap[l]? = some (.loop (rec .done (some jump))) := (hS.holds (objE l (.loop (rec .done (some jump)))) (by simp)).1
        have hr := run_endLoop (P := P) hl2 (by rw [hrec]; simp)
        rw [hrec] at hr
        exact ⟨some jump, _, hr, (hstop D _ es' hI ((hS.obj _).sub ((List.Sublist.refl _).cons _))).out⟩
end Go.Proofs.YtbdhgjaoojimmaaDoor
