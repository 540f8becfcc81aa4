/-
  The last bracket that waits for a closing one is taken.
-/
import Derived.Test.YtdfgecndbfmgnaaDoorSt
namespace Go.Proofs.YtdfgecndbfmgnaaDoor
open Go Go.RowKit
set_option linter.unusedVariables false
set_option linter.unusedSimpArgs false

theorem run_slicearr {P : Program} {w : World} {ρ : Operand → Value} {o : Oper} {T E s m g n : Nat} {x y : Operand} {z : Int} (ho : o.op = .slice T x none (some y) none) (hx : ρ x = .pointer (some ⟨g, 0, none⟩)) (hy : ρ y = .int .i64 z) (hz : z = (n : Int)) (hT : P.underlying T = some (.array m E)) (hs : ∀ w, (Go.sizeOf E).run P w = .ok s w) (hn : n ≤ m) :
    (execOp ρ o).run P w = .ok (.value (.slice (some ⟨g, 0, none⟩) n m)) w := by
  subst hz
  have hb : (Instr.sliceBounds false m m none (some (.int .i64 (n : Int))) none).run P w = .ok (0, n, m) w := by
    simp [Instr.sliceBounds, Instr.sliceBound, asIntOf, asInt, hn, Sem.run_bind, Result.andThen]
  unfold execOp
  rw [ho]
  simp only [hx, hy, Option.map_none, Option.map_some, Instr.sliceAt, Sem.run_bind, run_underlying hT, Result.andThen_ok, Instr.sureAddr, Sem.run_pure, hb, hs]
  simp [add_flat]

def popK (c : Int) : List (Int × Int) → Option (Int × List (Int × Int))
  | [] => none
  | x :: t => if x.1 = c then some (x.2, t) else popK c t
def kTake (st : List (Int × Int)) (c : Int) : Option (List (Int × Int) × Int × Bool) := some (match popK c st with | none => (st, 0, false) | some (a, st') => (st', a, true))
theorem popK_suf {c : Int} : ∀ {st : List (Int × Int)} {a : Int} {st' : List (Int × Int)}, popK c st = some (a, st') → ∃ pre, st = pre ++ st' ∧ st'.length < st.length
  | [], _, _, h => by cases h
  | x :: t, a, st', h => by
    rw [popK] at h
    split at h
    · injection h with h; injection h with h1 h2; subst h2; exact ⟨[x], rfl, by simp⟩
    · obtain ⟨pre, e, hl⟩ := popK_suf h
      exact ⟨x :: pre, by rw [e]; rfl, by rw [List.length_cons]; omega⟩
theorem stk_suf {pre st' : List (Int × Int)} {rest : List Value} (h : (stkC (pre ++ st') ++ rest).length = 126) : ∃ rest', (stkC st' ++ rest').length = 126 ∧ stkC (pre ++ st') ++ rest = stkC st' ++ rest' := by
  refine ⟨stkC pre ++ rest, ?_, ?_⟩
  · rw [← h]; simp [stkC]
  · simp [stkC]

/-- a piece that never panics -/
theorem gx_calm {ro : Option Nat} {n : Nat} {P : Program} {c : Code} {Q : Exit → Act → World → Prop} {a : Act} {w : World} (h : WC ro n P c (Exit.then (fun a w => Q .normal a w) (fun _ _ _ => False)) a w) : WC ro n P c Q a w :=
  ⟨wpIn_mono h.out (by rintro e a w hp; cases e <;> first | exact hp | exact hp.elim)⟩

/-- what lies there in a round -/
abbrev tkE (g b2 b3 b4 b5 : Nat) (cs : List Value) (c r0 : Int) (r1 : Bool) : List Ent :=
  [boxE g cs 62, boxE b2 [.pointer (some ⟨g, 0, none⟩)] 83, boxE b3 [.int .i32 c] 21, boxE b4 [.int .i64 r0] 3, boxE b5 [.bool r1] 4]

set_option maxRecDepth 100000 in
set_option maxHeartbeats 4000000 in
theorem kTake_ok (g : Nat) (st : List (Int × Int)) (c : Int) (r : List (Int × Int) × Int × Bool) (hF : kTake st c = some r) (w0 : World) (hE : St [g] w0 w0 [stkE g st]) :
    Calls Tryd.prog 27 #[.pointer (some ⟨g, 0, none⟩), .int .i32 c] w0 fun e w => ∃ v, e = .returned v ∧ v = .tuple #[.int .i64 r.2.1, .bool r.2.2] ∧ St [g] w0 w [stkE g r.1] := by
 obtain ⟨h63, rest, hlen, hS0⟩ := stk_open hE
 have hn := stk_n (st := st) hlen
 refine calls_ofM Tryd.func27 rfl ⟨((.pointer (some ⟨g, 0, none⟩)) :: (.int .i32 c) :: un 27 []).toArray, []⟩ (by kernel_rfl) (gx_seq (fun K1 hK2 => gx_region (gx_r (st_boxed [.pointer (some ⟨g, 0, none⟩)] 83 hS0 (by kernel_rfl)) ?_)))
 rintro _ w1 ⟨rfl, hS1⟩
 refine gx_r (st_boxed [.int .i32 c] 21 hS1 (by kernel_rfl)) ?_
 rintro _ w2 ⟨rfl, hS2⟩
 refine gx_r (st_boxed [.int .i64 0] 3 hS2 (by kernel_rfl)) ?_
 rintro _ w3 ⟨rfl, hS3⟩
 refine gx_r (st_boxed [.bool false] 4 hS3 (by kernel_rfl)) ?_
 rintro _ w4 ⟨rfl, hS4⟩
 have hS4 : St [g] w0 w4 (tkE g w0.heap.size w1.heap.size w2.heap.size w3.heap.size (stkL st rest) c 0 false) := hS4
 refine gx_nil (gx_thenN (hK2 _ _ ?_))
 generalize w0.heap.size = b2 at hS4 ⊢
 generalize w1.heap.size = b3 at hS4 ⊢
 generalize w2.heap.size = b4 at hS4 ⊢
 generalize w3.heap.size = b5 at hS4 ⊢
 refine gx_seq (fun K3 hK4 => gx_seq (fun K5 hK6 => gx_calm (gd_start (fun w => St [g] w0 w (tkE g b2 b3 b4 b5 (stkL st rest) c 0 false)) 9 #[false, false, false, false, false, false, false, false, false] (by kernel_rfl) (by kernel_rfl) ?_)))
 have hX := hS4.drew
 refine gu1 0 8 (.pointer (some ⟨g, 0, none⟩)) rfl hX (fun w hw => run_load1 rfl (by kernel_rfl) (fun _ => by kernel_rfl) (hw.box 1 rfl 0 rfl)) (gv1 1 9 (.pointer (some ⟨g, 0, none⟩)) rfl hX (gv1 2 10 (.pointer (some ⟨g, 0, none⟩)) rfl hX ?_))
 refine gu1 3 11 (.pointer (some ⟨g, 0, none⟩)) rfl hX (fun w hw => run_load1 rfl (by kernel_rfl) (fun _ => by kernel_rfl) (hw.box 1 rfl 0 rfl)) (gv1 4 12 (.pointer (some ⟨g, 0, none⟩)) rfl hX (gv1 5 13 (.pointer (some ⟨g, 126, none⟩)) rfl hX ?_))
 refine gu1 6 14 (.int .i64 (st.length : Nat)) rfl hX (fun w hw => run_load1 rfl (by kernel_rfl) (fun _ => by kernel_rfl) (hw.box 0 rfl 126 hn)) ?_
 refine gu1 7 15 (.slice (some ⟨g, 0, none⟩) st.length 63) rfl hX (fun w hw => run_slicearr (E := 59) (s := 2) rfl (by kernel_rfl) (by kernel_rfl) rfl (by kernel_rfl) (fun _ => by kernel_rfl) h63) ?_
 refine gdC 8 _ (oBack_R (some ⟨g, 0, none⟩) st.length 63 () _) rfl (by kernel_rfl) (oBack_ok 0 (some ⟨g, 0, none⟩) st.length 63 _ rfl _) ?_
 rintro _ w9 ⟨g12, rfl, hT11⟩
 have hS10 : St [g] w0 w9 (tkE g b2 b3 b4 b5 (stkL st rest) c 0 false ++ [boxE g12 [.slice (some ⟨g, 0, none⟩) st.length 63] 87]) := hX.take _ hT11
 refine ⟨hS10.pick [0, 1, 2, 3, 4] rfl rfl, gd_done (by kernel_rfl) (gx_thenN (hK6 _ _ (gx_block ?_)))⟩
 refine gx_rangeI (v := .func (.func 57) #[] #[.pointer (some ⟨g12, 0, none⟩)]) (enc := encO) (items := oIt st) (kp := oKp g g12 st) (es := tkE g b2 b3 b4 b5 (stkL st rest) c 0 false) (ks := [boxE g12 [.slice (some ⟨g, 0, none⟩) st.length 63] 87]) (by kernel_rfl) (oBack1_iter g g12 st h63) (fun ⟨_, _, _⟩ => rfl) hS10
   (fun rs es => ∃ t, rs = oIt t ∧ (∃ pre, st = pre ++ t) ∧ popK c st = popK c t ∧ es = tkE g b2 b3 b4 b5 (stkL st rest) c 0 false)
   (fun es => ∃ a st', popK c st = some (a, st') ∧ es = tkE g b2 b3 b4 b5 (stkC st ++ rest ++ [.int .i64 (st'.length : Nat)]) c a true)
   ?_ .ret ⟨st, rfl, ⟨[], rfl⟩, rfl, rfl⟩ ?_ ?_ ?_
 · rintro W es' (⟨_, t, rfl, _, _, rfl⟩ | ⟨a, st', _, rfl⟩) h
   · exact ⟨h.get 5 rfl, rest ++ [.int .i64 (st.length : Nat)], by have := h.get 0 rfl; rw [← List.append_assoc]; exact this⟩
   · exact ⟨h.get 5 rfl, rest ++ [.int .i64 (st'.length : Nat)], by have := h.get 0 rfl; rw [← List.append_assoc]; exact this⟩
 · rintro l26 r27 r28 ⟨u, a, c2⟩ its W _ ⟨t, hit, ⟨pre, hst⟩, hpop, rfl⟩ hS30
   rcases t with _ | ⟨x, t⟩
   · cases hit
   rw [oIt] at hit
   injection hit with hit1 hits
   injection hit1 with hu hit2
   injection hit2 with ha hc2
   subst hu; subst ha; subst hc2; subst hits
   refine gx_act ⟨((.pointer (some ⟨g, 0, none⟩)) :: (.int .i32 c) :: (.pointer (some ⟨b2, 0, none⟩)) :: (.pointer (some ⟨b3, 0, none⟩)) :: (.pointer (some ⟨b4, 0, none⟩)) :: (.pointer (some ⟨b5, 0, none⟩)) :: undef :: undef :: (.pointer (some ⟨g, 0, none⟩)) :: (.pointer (some ⟨g, 0, none⟩)) :: (.pointer (some ⟨g, 0, none⟩)) :: (.pointer (some ⟨g, 0, none⟩)) :: (.pointer (some ⟨g, 0, none⟩)) :: (.pointer (some ⟨g, 126, none⟩)) :: (.int .i64 (st.length : Nat)) :: (.slice (some ⟨g, 0, none⟩) st.length 63) :: (.func (.func 57) #[] #[.pointer (some ⟨g12, 0, none⟩)]) :: (.int .i64 (t.length : Nat)) :: (.agg #[.int .i64 x.2, .int .i32 x.1]) :: un 10 []).toArray, []⟩ (by kernel_rfl) ?_
   refine gx_seq (fun K13 hK14 => gx_region (gx_k (.int .i64 (t.length : Nat)) W (gx_nil (gx_thenN (hK14 _ _ ?_)))))
   refine gx_region (gx_r (st_boxed [.int .i64 0, .int .i32 0] 59 hS30 (by kernel_rfl)) ?_)
   rintro _ W1 ⟨rfl, hS31⟩
   refine gx_s (st_storeGP (cs := [.int .i64 0, .int .i32 0]) (ds := [.int .i64 x.2, .int .i32 x.1]) (cs' := [.int .i64 x.2, .int .i32 x.1]) 0 rfl (by kernel_rfl) (by kernel_rfl) (by kernel_rfl) rfl hS31 6 rfl (by show 0 + 2 ≤ 2; decide) rfl) ?_
   intro W2 hS32
   generalize W.heap.size = b7 at hS32 ⊢
   have hS32 : St _ _ W2 (objE l26 r27 :: (tkE g b2 b3 b4 b5 (stkL st rest) c 0 false ++ [boxE b7 [.int .i64 x.2, .int .i32 x.1] 59])) := hS32
   refine gx_nil (gx_thenN ?_)
   refine ⟨_, hS32, fun w31 hS33 => ?_⟩
   refine gx_block (gx_seq (fun K15 hK16 => gx_region (gx_k (.pointer (some ⟨b7, 1, none⟩)) w31 (gx_v (.int .i32 x.1) w31 (run_load1 rfl (by kernel_rfl) (fun _ => by kernel_rfl) (hS33.box 6 rfl 1 rfl)) (gx_v (.int .i32 c) w31 (run_load1 rfl (by kernel_rfl) (fun _ => by kernel_rfl) (hS33.box 3 rfl 0 rfl)) ?_)))))
   rw [popK] at hpop
   by_cases hx : x.1 = c
   · rw [if_pos hx] at hpop
     refine gx_v (.bool true) w31 (run_boolE (decide_eq_true hx) (by kernel_rfl)) (gx_nil (gx_thenN (hK16 _ _ (gx_yes (by kernel_rfl) ?_))))
     refine gx_seq (fun K17 hK18 => gx_region (gx_v (.pointer (some ⟨g, 0, none⟩)) w31 (run_load1 rfl (by kernel_rfl) (fun _ => by kernel_rfl) (hS33.box 2 rfl 0 rfl)) (gx_k (.int .i64 (t.length : Nat)) w31 (gx_k (.pointer (some ⟨g, 0, none⟩)) w31 (gx_k (.pointer (some ⟨g, 126, none⟩)) w31 ?_)))))
     refine gx_s (st_store (j := 126) (v := .int .i64 (t.length : Nat)) rfl (by kernel_rfl) (by kernel_rfl) rfl (fun _ => by kernel_rfl) hS33 1 rfl (by unfold stkL; rw [List.length_append, hlen]; exact Nat.lt_succ_self 126)) ?_
     intro W3 hS34
     refine gx_nil (gx_thenN (hK18 _ _ ?_))
     refine gx_seq (fun K19 hK20 => gx_region (gx_k (.pointer (some ⟨b7, 0, none⟩)) W3 (gx_v (.int .i64 x.2) W3 (run_load1 rfl (by kernel_rfl) (fun _ => by kernel_rfl) (hS34.box 6 rfl 0 rfl)) ?_)))
     refine gx_s (st_store (j := 0) (v := .int .i64 x.2) rfl (by kernel_rfl) (by kernel_rfl) rfl (fun _ => by kernel_rfl) hS34 4 rfl (by show 0 < 1; decide)) ?_
     intro W4 hS35
     refine gx_s (st_store (j := 0) (v := .bool true) rfl (by kernel_rfl) (by kernel_rfl) rfl (fun _ => by kernel_rfl) hS35 5 rfl (by show 0 < 1; decide)) ?_
     intro W5 hS36
     refine gx_nil (gx_thenN (hK20 _ _ (gx_ret (gx_blkR ?_))))
     have hset : (stkL st rest).set 126 (.int .i64 (t.length : Nat)) = stkC st ++ rest ++ [.int .i64 (t.length : Nat)] := by
       unfold stkL
       rw [List.set_append_right _ _ (by omega), hlen]; rfl
     have hS37 : St _ _ W5 (objE l26 r28 :: (tkE g b2 b3 b4 b5 ((stkL st rest).set 126 (.int .i64 (t.length : Nat))) c x.2 true ++ [boxE b7 [.int .i64 x.2, .int .i32 x.1] 59])) := hS36
     rw [hset] at hS37
     exact ⟨⟨rfl, _, hS37.pick [0, 1, 2, 3, 4, 5] rfl rfl, x.2, t, hpop, rfl⟩⟩
   · rw [if_neg hx] at hpop
     refine gx_v (.bool false) w31 (run_boolE (decide_eq_false hx) (by kernel_rfl)) (gx_nil (gx_thenN (hK16 _ _ (gx_no (by kernel_rfl) (gx_pass (gx_blkN ?_))))))
     exact ⟨⟨_, hS33.pick [0, 1, 2, 3, 4, 5] rfl rfl, t, rfl, ⟨pre ++ [x], by rw [hst]; simp⟩, hpop, rfl⟩⟩
 · rintro D W _ ⟨t, hit, _, hpop, rfl⟩ hS50
   rcases t with _ | ⟨x, t⟩
   rotate_left
   · cases hit
   rw [popK] at hpop
   have hS50 : St _ _ W (objE D (.deferred (some [])) :: (tkE g b2 b3 b4 b5 (stkL st rest) c 0 false ++ [boxE g12 [.slice (some ⟨g, 0, none⟩) st.length 63] 87])) := hS50
   refine gx_blkN (gx_thenN (hK4 _ _ (gx_seq (fun K51 hK52 => gx_region ?_))))
   refine gx_s (st_store (j := 0) (v := .int .i64 0) rfl (by kernel_rfl) (by kernel_rfl) rfl (fun _ => by kernel_rfl) hS50 4 rfl (by show 0 < 1; decide)) ?_
   intro W3 hS51
   refine gx_s (st_store (j := 0) (v := .bool false) rfl (by kernel_rfl) (by kernel_rfl) rfl (fun _ => by kernel_rfl) hS51 5 rfl (by show 0 < 1; decide)) ?_
   intro W4 hS52
   refine gx_nil (gx_thenN (hK52 _ _ (gx_ret ?_)))
   have hS53 : St _ _ W4 (objE D (.deferred (some [])) :: (tkE g b2 b3 b4 b5 (stkL st rest) c 0 false ++ [boxE g12 [.slice (some ⟨g, 0, none⟩) st.length 63] 87])) := hS52
   have hr : r = (st, 0, false) := by unfold kTake at hF; rw [hpop] at hF; exact (Option.some.inj hF).symm
   subst hr
   exact gx_finM1 (es := [boxE b4 [.int .i64 0] 3, boxE b5 [.bool false] 4, boxE g (stkL st rest) 62]) (.tuple #[.int .i64 0, .bool false]) (by kernel_rfl) (hS53.pick [0, 4, 5, 1] rfl rfl)
     (fun w hS => ⟨res_c2 rfl (by kernel_rfl) (by kernel_rfl) (hS.box 0 rfl 0 rfl) (by kernel_rfl) (by kernel_rfl) (hS.box 1 rfl 0 rfl), _, rfl, rfl, stk_shut h63 hlen (hS.pick [2] rfl rfl)⟩)
 · rintro D W _ ⟨a, st', hpop, rfl⟩ hS50
   have hS50 : St _ _ W (objE D (.deferred (some [])) :: (tkE g b2 b3 b4 b5 (stkC st ++ rest ++ [.int .i64 (st'.length : Nat)]) c a true ++ [boxE g12 [.slice (some ⟨g, 0, none⟩) st.length 63] 87])) := hS50
   refine gx_ret (gx_blkR (gx_thenR ?_))
   have hr : r = (st', a, true) := by unfold kTake at hF; rw [hpop] at hF; exact (Option.some.inj hF).symm
   subst hr
   obtain ⟨pre, hst, hlt⟩ := popK_suf hpop
   obtain ⟨rest', hl', he'⟩ := stk_suf (pre := pre) (st' := st') (rest := rest) (by rw [← hst]; exact hlen)
   rw [← hst] at he'
   have hfin : ∀ w, St [g] w0 w [boxE g (stkC st ++ rest ++ [.int .i64 (st'.length : Nat)]) 62] → St [g] w0 w [stkE g st'] := by
     intro w h2
     rw [he'] at h2
     exact stk_shut (by omega) hl' h2
   exact gx_finM1 (es := [boxE b4 [.int .i64 a] 3, boxE b5 [.bool true] 4, boxE g (stkC st ++ rest ++ [.int .i64 (st'.length : Nat)]) 62]) (.tuple #[.int .i64 a, .bool true]) (by kernel_rfl) (hS50.pick [0, 4, 5, 1] rfl rfl)
     (fun w hS => ⟨res_c2 rfl (by kernel_rfl) (by kernel_rfl) (hS.box 0 rfl 0 rfl) (by kernel_rfl) (by kernel_rfl) (hS.box 1 rfl 0 rfl), _, rfl, rfl, hfin w (hS.pick [2] rfl rfl)⟩)

def kPut_R (g : Nat) (r : List (Int × Int) × Bool) (w0 : World) (v : Value) (w : World) : Prop := v = .bool r.2 ∧ St [g] w0 w [stkE g r.1]
def kTake_R (g : Nat) (r : List (Int × Int) × Int × Bool) (w0 : World) (v : Value) (w : World) : Prop := v = .tuple #[.int .i64 r.2.1, .bool r.2.2] ∧ St [g] w0 w [stkE g r.1]
theorem st_stk0 {P : Program} {bs : List Nat} {w0 w : World} {es : List Ent} {o : Oper} {ρ : Operand → Value} (h : St bs w0 w es)
    (hr : (execOp ρ o).run P w = .ok (.value (.pointer (some ⟨w.heap.size, 0, none⟩))) (w.alloc (.cells ((List.replicate 63 [Value.int .i64 0, Value.int .i32 0]).flatten ++ [Value.int .i64 0]).toArray 62))) :
    ∃ v w', (execOp ρ o).run P w = .ok (.value v) w' ∧ (v = .pointer (some ⟨w.heap.size, 0, none⟩) ∧ St bs w0 w' (es ++ [stkE w.heap.size []])) := by
  refine ⟨_, _, hr, rfl, ?_⟩
  have h1 := h.boxed ((List.replicate 63 [Value.int .i64 0, Value.int .i32 0]).flatten ++ [Value.int .i64 0]) 62
  have hz : ((List.replicate 63 [Value.int .i64 0, Value.int .i32 0]).flatten).length = 126 := by simp
  generalize (List.replicate 63 [Value.int .i64 0, Value.int .i32 0]).flatten = zs at h1 hz ⊢
  have hg := h1.get es.length (e := boxE w.heap.size (zs ++ [Value.int .i64 0]) 62) (by simp)
  have h2 := h1.same es.length (e := boxE w.heap.size (zs ++ [Value.int .i64 0]) 62) (e' := stkE w.heap.size []) (by simp) ⟨by decide, zs, hz, hg⟩ rfl
  simpa using h2
end Go.Proofs.YtdfgecndbfmgnaaDoor
