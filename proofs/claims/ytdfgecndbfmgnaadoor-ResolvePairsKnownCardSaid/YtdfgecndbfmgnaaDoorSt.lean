/-
  A range over a function whose rounds turn what it reads; the brackets that wait, from the last one on.
-/
import Derived.Test.YtdfgecndbfmgnaaDoorSk
import Derived.Test.YtdfgecndbfmgnaaDoorPB0
namespace Go.Proofs.YtdfgecndbfmgnaaDoor
open Go Go.RowKit
set_option linter.unusedVariables false
set_option linter.unusedSimpArgs false

theorem gx_rangeI {ι : Type} {P : Program} {n : Nat} {Q : Exit → Act → World → Prop} {a : Act} {w : World} {g : Operand} {ps : Array Tmp} {assign body : Code} {bs : List Nat} {w0 : World} {v : Value} {enc : ι → Array Value} {items : List ι} {kp : World → Prop} {es ks : List Ent}
    (hv : a.eval g = v) (hit : Iter P v enc items kp) (hps : ∀ x, (enc x).size = ps.size)
    (hst : St bs w0 w (es ++ ks)) (I : List ι → List Ent → Prop) (Ix : List Ent → Prop)
    (hkp : ∀ W es', ((∃ r, I r es') ∨ Ix es') → St bs w0 W (es' ++ ks) → kp W) (jump : Code) (h0 : I items es)
    (hround : ∀ (l : Nat) (r1 r2 : Obj) (x : ι) (rest : List ι) (W : World) (es : List Ent), I (x :: rest) es → St (feet (objE l r1 :: es)) W W (objE l r1 :: es) →
      WC (some l) (n - 1 - 1) P assign (Exit.then (fun a' W' => ∃ es1, St (feet (objE l r1 :: es)) W W' (objE l r1 :: es1) ∧ ∀ W2, St (feet (objE l r1 :: es)) W W2 (objE l r2 :: es1) →
        WC (some l) (n - 1 - 1) P body (roundLeft l r2 W es rest I Ix jump) a' W2) (fun _ _ _ => False)) { tmps := (ps.zip (enc x)).foldl (fun t (p, v) => t.setIfInBounds p v) a.tmps, defers := [] } W)
    (hdone : ∀ D W es', I [] es' → St bs w0 W (objE D (.deferred (some [])) :: es' ++ ks) → WQ Q .normal { a with defers := { target := .collected D, args := #[] } :: a.defers } W)
    (hstop : ∀ D W es', Ix es' → St bs w0 W (objE D (.deferred (some [])) :: es' ++ ks) → WC none n P jump Q { a with defers := { target := .collected D, args := #[] } :: a.defers } W) :
    WC none n P (Code.rangeFunc g ps assign body) Q a w := by
  obtain ⟨gf, lb, rfl, eg, hit⟩ := hit
  constructor
  refine wpIn_rangeFunc ?_
  intro fn hfn
  obtain ⟨rec, hrec⟩ : ∃ rec : LoopState → Option Code → Loop, rec = fun st pe => { state := st, pending := pe, fn, tmps := a.tmps, params := ps, assign, body, defers := w.heap.size } := ⟨_, rfl⟩
  obtain ⟨D, hD⟩ : ∃ D, D = w.heap.size := ⟨_, rfl⟩
  obtain ⟨l, hl⟩ : ∃ l, l = w.heap.size + 1 := ⟨_, rfl⟩
  obtain ⟨W1, hW1⟩ : ∃ W1, W1 = (w.alloc (.deferred (some []))).alloc (.loop (rec .ready none)) := ⟨_, rfl⟩
  have hS1 : St bs w0 W1 (objE l (.loop (rec .ready none)) :: objE D (.deferred (some [])) :: (es ++ ks)) := by
    have s1 : St bs w0 (w.alloc (.deferred (some []))) (objE D (.deferred (some [])) :: (es ++ ks)) :=
      hst.ahead ((Below.refl _ w).alloc (Nat.le_refl _) _) _ (by rw [hD]; exact World.alloc_heap_new w _) (fun k hk => by simp [objE] at hk; subst hk; rw [hD]; simp)
    rw [hW1]
    exact s1.ahead ((Below.refl _ _).alloc (Nat.le_refl _) _) _ (by rw [hl]; have := World.alloc_heap_new (w.alloc (.deferred (some []))) (.loop (rec .ready none)); rwa [World.size_alloc] at this) (fun k hk => by simp [objE] at hk; subst hk; rw [hl]; simp)
  refine ⟨l, [{ target := .collected D, args := #[] }], W1, { target := .fn (.func gf) lb, args := #[.func (.yield l) #[] #[]] }, W1, gf, #[.func (.yield l) #[] #[]] ++ lb, W1, ?_, ?_, fun _ _ => trivial, ?_, fun h => (by cases h), ?_⟩
  · rw [hW1, hrec, hl, hD]; exact run_enterLoop_outer _ _ _ _ _
  · simp only [resolve, hv]
    simp [go_sem]
  · simp [invoke, go_sem, eg]
  · refine (hit (n - 1) l (fun rest W => ∃ es', I rest es' ∧ St bs w0 W (objE l (.loop (rec .ready none)) :: objE D (.deferred (some [])) :: (es' ++ ks)))
      (fun W => ∃ es', Ix es' ∧ St bs w0 W (objE l (.loop (rec .done (some jump))) :: objE D (.deferred (some [])) :: (es' ++ ks))) W1
      (fun r W W' h hb => by obtain ⟨es', h1, h2⟩ := h; exact ⟨es', h1, h2.stay hb⟩) (fun W W' h hb => by obtain ⟨es', h1, h2⟩ := h; exact ⟨es', h1, h2.stay hb⟩) ?_ (hkp W1 es (.inl ⟨_, h0⟩) (hS1.sub ((List.Sublist.refl _).cons _ |>.cons _))) ⟨es, h0, hS1⟩).mono ?_
    · rintro x rest W ⟨es', hI, hS⟩ _
      have hlW : W.heap[l]? = some (.loop (rec .ready none)) := (hS.holds (objE l (.loop (rec .ready none))) (by simp)).1
      have hy := run_yield (P := P) (args := enc x) hlW (by rw [hrec]; exact hps x)
      rw [hrec] at hy
      refine ⟨fn, _, assign, body, hy, roundIn_of_wpIn hfn ?_⟩
      clear hy
      obtain ⟨B, hB⟩ : ∃ B, B = objE D (.deferred (some [])) :: ks := ⟨_, rfl⟩
      have hperm : ∀ (r : Obj) (es' : List Ent), (objE l r :: objE D (.deferred (some [])) :: (es' ++ ks)).Perm ((objE l r :: es') ++ B) := by
        intro r es'
        rw [hB]
        refine List.Perm.cons _ ?_
        exact (List.perm_middle (l₁ := es') (l₂ := ks) (a := objE D (.deferred (some [])))).symm
      have hS2 := hS.perm (hperm _ es')
      refine wpIn_mono (hround l (.loop (rec .ready none)) (.loop { rec .ready none with state := .busy }) x rest W es' hI hS2.lendAll).out ?_
      rintro e a' W' hp
      cases e with
      | normal =>
        obtain ⟨es1, h1, h2⟩ := hp
        have hl1 : W'.heap[l]? = some (.loop (rec .ready none)) := (h1.holds (objE l (.loop (rec .ready none))) (by simp)).1
        refine ⟨_, run_beginRound hl1 (by rw [hrec]), wpIn_mono (h2 _ (h1.obj _)).out ?_⟩
        have fin : ∀ (jump : Option Code) (W3 : World) (es3 : List Ent), St (feet (objE l (.loop (rec .ready none)) :: es')) W W3 (objE l (.loop { rec .ready none with state := .busy }) :: es3) →
            (Instr.endRound l jump).run P W3 = .ok (.bool jump.isNone) (W3.putObj l (.loop (rec (if jump.isNone then .ready else .done) jump))) ∧
            St bs w0 (W3.putObj l (.loop (rec (if jump.isNone then .ready else .done) jump))) (objE l (.loop (rec (if jump.isNone then .ready else .done) jump)) :: objE D (.deferred (some [])) :: (es3 ++ ks)) := by
          intro jump W3 es3 h3
          have hl3 : W3.heap[l]? = some (.loop { rec .ready none with state := .busy }) := (h3.holds (objE l (.loop { rec .ready none with state := .busy })) (by simp)).1
          refine ⟨?_, (hS2.backAll (h3.obj _)).perm (hperm _ es3).symm⟩
          have := run_endRound (P := P) jump hl3
          rw [hrec] at this ⊢
          exact this
        rintro e a3 W3 hp
        cases e with
        | normal =>
          obtain ⟨es3, h3, h4⟩ := hp
          obtain ⟨hr, hs⟩ := fin none W3 es3 h3
          exact ⟨_, _, hr, .inl ⟨rfl, ⟨es3, h4, hs⟩, hkp _ es3 (.inl ⟨_, h4⟩) (hs.sub ((List.Sublist.refl _).cons _ |>.cons _))⟩⟩
        | ret =>
          obtain ⟨rfl, es3, h3, h4⟩ := hp
          obtain ⟨hr, hs⟩ := fin (some .ret) W3 es3 h3
          exact ⟨_, _, hr, .inr ⟨rfl, ⟨es3, h4, hs⟩, hkp _ es3 (.inr h4) (hs.sub ((List.Sublist.refl _).cons _ |>.cons _))⟩⟩
        | exit id =>
          obtain ⟨rfl, es3, h3, h4⟩ := hp
          obtain ⟨hr, hs⟩ := fin (some (.exit id)) W3 es3 h3
          exact ⟨_, _, hr, .inr ⟨rfl, ⟨es3, h4, hs⟩, hkp _ es3 (.inr h4) (hs.sub ((List.Sublist.refl _).cons _ |>.cons _))⟩⟩
        | goto t =>
          obtain ⟨rfl, es3, h3, h4⟩ := hp
          obtain ⟨hr, hs⟩ := fin (some (.goto t)) W3 es3 h3
          exact ⟨_, _, hr, .inr ⟨rfl, ⟨es3, h4, hs⟩, hkp _ es3 (.inr h4) (hs.sub ((List.Sublist.refl _).cons _ |>.cons _))⟩⟩
        | panic ch => exact hp.elim
        | outgrown => exact hp.elim
      | _ => exact hp.elim
    · rintro e W2 ⟨⟨v, rfl⟩, (⟨es', hI, hS⟩ | ⟨es', hI, hS⟩)⟩
      · have hl2 : W2.heap[l]? = some (.loop (rec .ready none)) := (hS.holds (objE l (.loop (rec .ready none))) (by simp)).1
        have hr := run_endLoop (P := P) hl2 (by rw [hrec]; simp)
        rw [hrec] at hr
        exact ⟨none, _, hr, (hdone D _ es' hI ((hS.obj _).sub ((List.Sublist.refl _).cons _))).out⟩
      · have hl2 : W2.heap[l]? = some (.loop (rec .done (some jump))) := (hS.holds (objE l (.loop (rec .done (some jump)))) (by simp)).1
        have hr := run_endLoop (P := P) hl2 (by rw [hrec]; simp)
        rw [hrec] at hr
        exact ⟨some jump, _, hr, (hstop D _ es' hI ((hS.obj _).sub ((List.Sublist.refl _).cons _))).out⟩



def encO (x : Int × Int × Int) : Array Value := #[.int .i64 x.1, .agg #[.int .i64 x.2.1, .int .i32 x.2.2]]
/-- what is told: from the last one on, where in the row, where it stands, what closes it -/
def oIt : List (Int × Int) → List (Int × Int × Int)
  | [] => []
  | x :: t => (((t.length : Nat) : Int), x.2, x.1) :: oIt t

def oKp (g g1 : Nat) (st : List (Int × Int)) (W : World) : Prop := W.heap[g1]? = some (.cells [.slice (some ⟨g, 0, none⟩) st.length 63].toArray 87 (0, 0)) ∧ ∃ rest : List Value, W.heap[g]? = some (.cells (stkC st ++ rest).toArray 62 (0, 0))
theorem oKp_ab {g g1 : Nat} {st : List (Int × Int)} {W W' : World} (hk : oKp g g1 st W) (hb : Below W.heap.size W W') : oKp g g1 st W' := by
  obtain ⟨h1, rest, h2⟩ := hk
  exact ⟨(hb.block _ (own_row_lt h1)).trans h1, rest, (hb.block _ (own_row_lt h2)).trans h2⟩
theorem stk_at {pre t : List (Int × Int)} {x : Int × Int} {rest : List Value} {W : World} {g : Nat} (h : W.heap[g]? = some (.cells (stkC (pre ++ x :: t) ++ rest).toArray 62 (0, 0))) : W.rangeAt g (t.length * 2) [.int .i64 x.2, .int .i32 x.1] := by
  have e : stkC (pre ++ x :: t) ++ rest = stkC t ++ ([Value.int .i64 x.2, Value.int .i32 x.1] ++ (stkC pre ++ rest)) := by simp [stkC]
  rw [e] at h
  have hl := stkC_len t
  have hr := range_box (g := g) (T := 62) (cs := stkC t ++ ([Value.int .i64 x.2, Value.int .i32 x.1] ++ (stkC pre ++ rest))) h
  have hs := range_sub hr (t.length * 2) 2
  rw [List.drop_append, List.drop_eq_nil_of_le (by omega), show t.length * 2 - (stkC t).length = 0 by omega] at hs
  simpa using hs

set_option maxRecDepth 100000 in
set_option maxHeartbeats 4000000 in
theorem oBack1_iter (g g1 : Nat) (st : List (Int × Int)) (h63 : st.length ≤ 63) : Iter Tryd.prog (.func (.func 57) #[] #[.pointer (some ⟨g1, 0, none⟩)]) encO (oIt st) (oKp g g1 st) := by
 refine ⟨_, _, rfl, fun _ _ => by kernel_rfl, ?_⟩
 intro n l J Jx W hab habx hY hk hJ
 have hS0 := St.start W
 refine callsin_of Tryd.func57 rfl ⟨((.func (.yield l) #[] #[]) :: (.pointer (some ⟨g1, 0, none⟩)) :: un 17 ([])).toArray, []⟩ (by kernel_rfl) ?_
 refine gx_seq (fun K1 hK2 => ?_)
 refine gx_region ?_
 refine gx_v (.slice (some ⟨g, 0, none⟩) st.length 63) W (run_load1 rfl (by kernel_rfl) (fun _ => by kernel_rfl) (hS0.read hk.1 0 rfl)) ?_
 refine gx_k (.int .i64 ((st.length : Nat) : Int)) W (gx_k (.int .i64 (IntKind.i64.wrap (((st.length : Nat) : Int) - 1))) W (gx_k (.int .i64 (IntKind.i64.wrap (((st.length : Nat) : Int) - 1))) W ?_))
 refine gx_nil ?_
 refine gx_thenN ?_
 refine hK2 _ _ ?_
 refine gx_block ?_
 refine gx_loop (fun k a w => ∃ (x6 : Int) (t pre : List (Int × Int)) (wb7 : World) (its8 : List (Int × Int × Int)) (u5 : Nat → Value), a = ⟨((.func (.yield l) #[] #[]) :: (.pointer (some ⟨g1, 0, none⟩)) :: undef :: (.int .i64 x6) :: (.slice (some ⟨g, 0, none⟩) st.length 63) :: (.int .i64 ((st.length : Nat) : Int)) :: (.int .i64 (IntKind.i64.wrap (((st.length : Nat) : Int) - 1))) :: dd u5 0 12 ([])).toArray, []⟩ ∧ (x6 = IntKind.i64.wrap (((t.length : Nat) : Int) - 1) ∧ st = pre ++ t ∧ t.length < k ∧ its8 = oIt t) ∧ St [] wb7 w [] ∧ J its8 wb7 ∧ (oKp g g1 st) wb7) (st.length + 1) ?_ ?_
 ·exact ⟨(IntKind.i64.wrap (((st.length : Nat) : Int) - 1)), st, [], W, oIt st, (fun i => List.getD (undef :: undef :: undef :: undef :: undef :: undef :: undef :: undef :: undef :: undef :: undef :: undef :: []) i undef), by kernel_rfl, ⟨rfl, rfl, Nat.lt_succ_self _, rfl⟩, hS0, hJ, hk⟩
 ·rintro k11 _ w3 ⟨x6, t, pre, wb7, its8, u5, rfl, ⟨hx6, hst, hlt, rfl⟩, hS4, hJ9, hk10⟩
  have ht63 : t.length ≤ 63 := by rw [hst, List.length_append] at h63; omega
  have hwr : IntKind.i64.wrap (((t.length : Nat) : Int) - 1) = ((t.length : Nat) : Int) - 1 := by rw [IntKind.wrap_i64]; omega
  rw [hwr] at hx6
  cases k11 with
  | zero => omega
  | succ k11 =>
   refine gx_seq (fun K13 hK14 => ?_)
   refine gx_seq (fun K15 hK16 => ?_)
   refine gx_region ?_
   refine gx_k (.int .i64 x6) w3 ?_
   rcases t with _ | ⟨x, t⟩
   rotate_left
   ·obtain rfl : x6 = ((t.length : Nat) : Int) := by rw [hx6, List.length_cons]; omega
    have h17 : ((t.length : Nat) : Int) ≥ 0 := by omega
    have hJ9 : J ((((t.length : Nat) : Int), x.2, x.1) :: oIt t) wb7 := hJ9
    have hlt2 : ((t.length : Nat) : Int) < (st.length : Nat) := by rw [hst, List.length_append, List.length_cons]; omega
    obtain ⟨hk1, rest, hg⟩ := oKp_ab hk10 hS4.below
    rw [hst] at hg
    have hrange := stk_at hg
    refine gx_v (.bool true) w3 (run_boolE (decide_eq_true h17) (by kernel_rfl)) ?_
    refine gx_nil ?_
    refine gx_thenN ?_
    refine hK16 _ _ ?_
    refine gx_yes (by kernel_rfl) ?_
    refine gx_pass ?_
    refine gx_thenN ?_
    refine hK14 _ _ ?_
    refine gx_seq (fun K18 hK19 => ?_)
    refine gx_block ?_
    refine gx_seq (fun K20 hK21 => ?_)
    refine gx_region ?_
    refine gx_k (.func (.yield l) #[] #[]) w3 (gx_k (.int .i64 ((t.length : Nat) : Int)) w3 ?_)
    refine gx_v (.slice (some ⟨g, 0, none⟩) st.length 63) w3 (run_load1 rfl (by kernel_rfl) (fun _ => by kernel_rfl) (hS4.read hk10.1 0 rfl)) ?_
    refine gx_k (.int .i64 ((t.length : Nat) : Int)) w3 ?_
    refine gx_v (.pointer (some ⟨g, t.length * 2, none⟩)) w3 (run_ixaddrN (A := some ⟨g, 0, none⟩) (E := 59) (s := 2) (k := .i64) (c := 63) rfl (by kernel_rfl) (by kernel_rfl) (by kernel_rfl) (fun _ => by kernel_rfl) h17 hlt2 (by simp [add_flat])) ?_
    refine gx_v (.agg #[.int .i64 x.2, .int .i32 x.1]) w3 (run_loadNG (g := g) (off := t.length * 2) (ec := [.int .i64 x.2, .int .i32 x.1]) rfl (by kernel_rfl) hrange Tryd.underlying59 rfl (by kernel_rfl)) ?_
    refine gx_yield (fun v w => (v = .bool true ∧ J (oIt t) w ∧ (oKp g g1 st) w) ∨ (v = .bool false ∧ Jx w ∧ (oKp g g1 st) w)) (by kernel_rfl) (run_yieldcall2 rfl (by kernel_rfl) (by kernel_rfl) (by kernel_rfl)) (yield_out (hY _ _ _ (hab _ _ _ hJ9 hS4.below) (oKp_ab hk10 hS4.below))) ?_
    rintro _ w26 (⟨rfl, hJ27, hk28⟩ | ⟨rfl, hx29, hk28⟩)
    ·have hS30 := St.start w26
     refine gx_k (.bool false) w26 ?_
     refine gx_nil ?_
     refine gx_thenN ?_
     refine hK21 _ _ ?_
     refine gx_no (by kernel_rfl) ?_
     refine gx_pass ?_
     refine gx_blkN ?_
     refine gx_thenN ?_
     refine hK19 _ _ ?_
     refine gx_region ?_
     refine gx_k (.int .i64 ((t.length : Nat) : Int)) w26 (gx_k (.int .i64 (IntKind.i64.wrap (((t.length : Nat) : Int) - 1))) w26 (gx_k (.int .i64 (IntKind.i64.wrap (((t.length : Nat) : Int) - 1))) w26 ?_))
     refine gx_nil ?_
     refine gx_thenN ?_
     exact ⟨k11, Nat.lt_succ_self k11, (IntKind.i64.wrap (((t.length : Nat) : Int) - 1)), t, pre ++ [x], w26, oIt t, (fun i => List.getD ((.int .i64 ((t.length : Nat) : Int)) :: (.bool true) :: (.int .i64 ((t.length : Nat) : Int)) :: (.int .i64 (IntKind.i64.wrap (((t.length : Nat) : Int) - 1))) :: (.func (.yield l) #[] #[]) :: (.int .i64 ((t.length : Nat) : Int)) :: (.slice (some ⟨g, 0, none⟩) st.length 63) :: (.int .i64 ((t.length : Nat) : Int)) :: (.pointer (some ⟨g, t.length * 2, none⟩)) :: (.agg #[.int .i64 x.2, .int .i32 x.1]) :: (.bool true) :: (.bool false) :: []) i undef), by kernel_rfl, ⟨rfl, by rw [hst]; simp, by simp only [List.length_cons] at hlt; omega, rfl⟩, hS30, hJ27, hk28⟩
    ·have hS30 := St.start w26
     refine gx_k (.bool true) w26 ?_
     refine gx_nil ?_
     refine gx_thenN ?_
     refine hK21 _ _ ?_
     refine gx_yes (by kernel_rfl) ?_
     refine gx_ret ?_
     refine gx_blkR ?_
     refine gx_thenR ?_
     refine gx_thenR ?_
     refine gx_blkR ?_
     exact gx_fin (.tuple #[]) (by kernel_rfl) (by kernel_rfl) ⟨⟨_, rfl⟩, .inr (habx _ _ hx29 hS30.below)⟩
   ·have h17 : ¬ x6 ≥ 0 := by rw [hx6]; decide
    refine gx_v (.bool false) w3 (run_boolE (decide_eq_false h17) (by kernel_rfl)) ?_
    refine gx_nil ?_
    refine gx_thenN ?_
    refine hK16 _ _ ?_
    refine gx_no (by kernel_rfl) ?_
    refine gx_exit ?_
    refine gx_thenE ?_
    refine gx_thenE ?_
    refine gx_blkE ?_
    have hJ9 : J [] wb7 := hJ9
    exact gx_finN (.tuple #[]) (by kernel_rfl) (by kernel_rfl) ⟨⟨_, rfl⟩, .inl (hab _ _ _ hJ9 hS4.below)⟩


def oBack (_N : Nat) : Option (Unit) :=
 some ()

def oBack_R (A0 : Option Addr) (n0 : Nat) (c0 : Nat) (_r : Unit) (w0 : World) (v : Value) (w : World) : Prop := ∃ (g0' : Nat), v = .func (.func 57) #[] #[.pointer (some ⟨g0', 0, none⟩)] ∧ St [] w0 w [boxE g0' [.slice A0 n0 c0] 87]

set_option maxRecDepth 100000 in
set_option maxHeartbeats 4000000 in
theorem oBack_ok (N : Nat) (A0 : Option Addr) (n0 c0 : Nat) (r : Unit) (hF : oBack N = some r) (w0 : World)  :
  Calls Tryd.prog 43 #[.slice A0 n0 c0] w0 fun e w => ∃ v, e = .returned v ∧ oBack_R A0 n0 c0 r w0 v w := by
 have hS0 := St.start w0
 unfold oBack at hF
 refine calls_of Tryd.func43 rfl ⟨((.slice A0 n0 c0) :: un 3 ([])).toArray, []⟩ (by kernel_rfl) ?_
 refine gx_seq (fun K1 hK2 => ?_)
 refine gx_region ?_
 refine gx_r (st_boxed [.slice A0 n0 c0] 87 hS0 (by kernel_rfl)) ?_
 rintro _ w3 ⟨rfl, hS4⟩
 have hS4 : St _ _ w3 [boxE w0.heap.size [.slice A0 n0 c0] 87] := hS4
 refine gx_k (Value.nilFunc) w3 ?_
 refine gx_nil ?_
 refine gx_thenN ?_
 refine hK2 _ _ ?_
 refine gx_seq (fun K5 hK6 => ?_)
 refine gx_region ?_
 refine gx_k (.func (.func 57) #[] #[.pointer (some ⟨w0.heap.size, 0, none⟩)]) w3 (gx_k (.func (.func 57) #[] #[.pointer (some ⟨w0.heap.size, 0, none⟩)]) w3 ?_)
 refine gx_nil ?_
 refine gx_thenN ?_
 refine hK6 _ _ ?_
 refine gx_ret ?_
 obtain rfl := Option.some.inj hF
 exact gx_fin (.func (.func 57) #[] #[.pointer (some ⟨w0.heap.size, 0, none⟩)]) (by kernel_rfl) (by kernel_rfl) ⟨_, rfl, w0.heap.size, rfl, hS4⟩

end Go.Proofs.YtdfgecndbfmgnaaDoor
