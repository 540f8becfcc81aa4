/-
  Joined.
-/
import Derived.Test.YtkcmemldhbifdaaDoorBa
import Derived.Test.YtkcmemldhbifdaaDoorGr
import Derived.Test.YtkcmemldhbifdaaDoorP0
namespace Go.Proofs.YtkcmemldhbifdaaDoor
open Go Go.RowKit
set_option linter.unusedVariables false
set_option linter.unusedSimpArgs false
def stkC (st : List (Int × Int)) : List Value := st.reverse.flatMap fun x => [.int .i32 x.1, .int .u8 x.2]
theorem stkC_len (st : List (Int × Int)) : (stkC st).length = 2 * st.length := by
  have : ∀ l : List (Int × Int), (l.flatMap fun x => [Value.int .i32 x.1, Value.int .u8 x.2]).length = 2 * l.length := by
    intro l
    induction l with
    | nil => rfl
    | cons x l ih => simp only [List.flatMap_cons, List.length_append, ih, List.length_cons, List.length_nil]; omega
  unfold stkC
  rw [this, List.length_reverse]
abbrev stkL (s : Int) (st : List (Int × Int)) (rest : List Value) : List Value := .int .u8 s :: (stkC st ++ rest ++ [.int .i64 (st.length : Nat)])
def pstE (g : Nat) (p : Int × List (Int × Int)) : Ent where
  foot := [g]
  holds w := p.2.length ≤ 64 ∧ ∃ rest : List Value, (stkC p.2 ++ rest).length = 128 ∧ w.heap[g]? = some (.cells (stkL p.1 p.2 rest).toArray 69 (0, 0))
  loc w w' hk h := ⟨h.1, by obtain ⟨r, h2, h3⟩ := h.2; exact ⟨r, h2, by rw [hk g (by simp)]; exact h3⟩⟩
section
variable {bs : List Nat} {w0 w : World} {es : List Ent} {g : Nat} {s : Int} {st : List (Int × Int)}
theorem St.same {e e' : Ent} (h : St bs w0 w es) (i : Nat) (hi : es[i]? = some e) (he : e'.holds w) (hf : e'.foot = e.foot) : St bs w0 w (es.set i e') :=
  h.turn i hi ⟨rfl, rfl, rfl⟩ (Nat.le_refl _) (fun _ _ _ => rfl) e' he (fun k hk => .inl (hf ▸ hk))
theorem stk_open (h : St bs w0 w [pstE g (s, st)]) : st.length ≤ 64 ∧ ∃ rest : List Value, (stkC st ++ rest).length = 128 ∧ St bs w0 w [boxE g (stkL s st rest) 69] := by
  obtain ⟨h1, rest, h2, h3⟩ := h.get 0 rfl
  exact ⟨h1, rest, h2, h.same 0 rfl (e' := boxE g (stkL s st rest) 69) h3 rfl⟩
theorem stk_shut {rest : List Value} (h1 : st.length ≤ 64) (h2 : (stkC st ++ rest).length = 128) (h : St bs w0 w [boxE g (stkL s st rest) 69]) : St bs w0 w [pstE g (s, st)] :=
  h.same 0 rfl (e' := pstE g (s, st)) ⟨h1, rest, h2, h.get 0 rfl⟩ rfl
theorem stk_n {rest : List Value} (h2 : (stkC st ++ rest).length = 128) : (stkL s st rest)[129]? = some (.int .i64 (st.length : Nat)) := by
  unfold stkL
  rw [List.getElem?_cons_succ, List.getElem?_append_right (by omega), h2]; rfl
end
def kPut (p : Int × List (Int × Int)) (c a : Int) : Option (Int × List (Int × Int)) := if ((p.2.length : Nat) : Int) < 64 then some (p.1, (c, a) :: p.2) else some p
theorem run_ixarrO {P : Program} {w : World} {ρ : Operand → Value} {o : Oper} {T E s m g b i : Nat} {x y : Operand} {k : IntKind} {z : Int} (ho : o.op = .indexAddr T x y) (hx : ρ x = .pointer (some ⟨g, b, none⟩)) (hy : ρ y = .int k z) (hz : z = (i : Int)) (hT : P.underlying T = some (.array m E)) (hs : ∀ w, (Go.sizeOf E).run P w = .ok s w) (hi : i < m) :
    (execOp ρ o).run P w = .ok (.value (.pointer (some ⟨g, b + i * s, none⟩))) w := by
  subst hz
  unfold execOp
  rw [ho]
  simp only [hx, hy, Instr.indexAt, asIntOf, Sem.run_bind, Sem.run_pure, Result.andThen_ok, run_underlying hT, Instr.sureAddr]
  rw [if_pos ⟨by omega, by omega⟩]
  simp [hs, Result.andThen, add_flat]
theorem stk_push {s : Int} {st : List (Int × Int)} {rest : List Value} {a c : Int} (h2 : (stkC st ++ rest).length = 128) (h : st.length < 64) :
    ∃ rest', (stkC ((c, a) :: st) ++ rest').length = 128 ∧ (stkL s st rest).take (1 + st.length * 2) ++ ([.int .i32 c, .int .u8 a] ++ (stkL s st rest).drop (1 + st.length * 2 + 2)) = .int .u8 s :: (stkC ((c, a) :: st) ++ rest' ++ [.int .i64 (st.length : Nat)]) := by
  have hc := stkC_len st
  have hr : rest.length = 128 - 2 * st.length := by rw [List.length_append] at h2; omega
  have e : stkC ((c, a) :: st) = stkC st ++ [.int .i32 c, .int .u8 a] := by simp [stkC]
  refine ⟨rest.drop 2, ?_, ?_⟩
  · rw [e]; simp only [List.length_append, List.length_drop, List.length_cons, List.length_nil]; omega
  · rw [e]
    unfold stkL
    rw [show 1 + st.length * 2 = st.length * 2 + 1 by omega, show st.length * 2 + 1 + 2 = (st.length * 2 + 2) + 1 by omega, List.take_succ_cons, List.drop_succ_cons]
    rw [List.append_assoc (stkC st), List.take_append_of_le_length (by omega), List.take_of_length_le (by omega), List.drop_append, List.drop_eq_nil_of_le (by omega), List.drop_append_of_le_length (by omega)]
    rw [show st.length * 2 + 2 - (stkC st).length = 2 by omega]
    simp
set_option maxRecDepth 100000 in
set_option maxHeartbeats 4000000 in
theorem kPut_ok (g : Nat) (s : Int) (st : List (Int × Int)) (c a : Int) (r : Int × List (Int × Int)) (hF : kPut (s, st) c a = some r) (w0 : World) (hE : St [g] w0 w0 [pstE g (s, st)]) :
    Calls Tryd.prog 37 #[.pointer (some ⟨g, 1, none⟩), .int .i32 c, .int .u8 a] w0 fun e w => ∃ v, e = .returned v ∧ v = .tuple #[] ∧ St [g] w0 w [pstE g r] := by
  obtain ⟨h63, rest, hlen, hS0⟩ := stk_open hE
  have hn := stk_n (s := s) (st := st) hlen
  unfold kPut at hF
  refine calls_of Tryd.func37 rfl ⟨((.pointer (some ⟨g, 1, none⟩)) :: (.int .i32 c) :: (.int .u8 a) :: un 26 []).toArray, []⟩ (by kernel_rfl) ?_
  refine gx_seq (fun K5 hK6 => gx_region (gx_k (.pointer (some ⟨g, 1, none⟩)) w0 (gx_k (.pointer (some ⟨g, 1, none⟩)) w0 (gx_k (.pointer (some ⟨g, 129, none⟩)) w0
    (gx_v (.int .i64 (st.length : Nat)) w0 (run_load1 rfl (by kernel_rfl) (fun _ => by kernel_rfl) (hS0.box 0 rfl 129 hn)) ?_)))))
  rcases if_in hF with ⟨h7, hF⟩ | ⟨h7, hF⟩
  rotate_left
  · refine gx_v (.bool false) w0 (run_boolE (decide_eq_false h7) (by kernel_rfl)) (gx_nil (gx_thenN (hK6 _ _ (gx_no (by kernel_rfl) (gx_pass ?_)))))
    obtain rfl := Option.some.inj hF
    exact gx_finN (.tuple #[]) (by kernel_rfl) (by kernel_rfl) ⟨_, rfl, rfl, hE⟩
  · refine gx_v (.bool true) w0 (run_boolE (decide_eq_true h7) (by kernel_rfl)) (gx_nil (gx_thenN (hK6 _ _ (gx_yes (by kernel_rfl) ?_))))
    have hlt : st.length < 64 := by have h7 : ((st.length : Nat) : Int) < 64 := h7; omega
    obtain ⟨rest', hl', he'⟩ := stk_push (s := s) (a := a) (c := c) hlen hlt
    refine gx_seq (fun K8 hK9 => gd_start (fun w => ∃ cs : List Value, St [g] w0 w [boxE g cs 69] ∧ cs[129]? = some (.int .i64 (st.length : Nat))) 12 #[false, false, false, false, false, false, false, false, false, false, false, false] (by kernel_rfl) (by kernel_rfl) ?_)
    have hS1 := hS0.drew
    have hX : ∃ cs : List Value, St [g] w0 w0.drew [boxE g cs 69] ∧ cs[129]? = some (.int .i64 (st.length : Nat)) := ⟨_, hS1, hn⟩
    refine gv1 0 11 (.pointer (some ⟨g, 1, none⟩)) rfl hX (gv1 1 12 (.pointer (some ⟨g, 1, none⟩)) rfl hX (gv1 2 13 (.pointer (some ⟨g, 1, none⟩)) rfl hX (gv1 3 14 (.pointer (some ⟨g, 129, none⟩)) rfl hX ?_)))
    refine gu1 4 15 (.int .i64 (st.length : Nat)) rfl hX (fun w ⟨cs, hw, hc⟩ => run_load1 rfl (by kernel_rfl) (fun _ => by kernel_rfl) (hw.box 0 rfl 129 hc)) ?_
    refine gv1 5 16 (.int .i32 c) rfl hX (gv1 6 17 (.int .u8 a) rfl hX (gv1 7 18 (.agg #[.int .i32 c, .int .u8 a]) rfl hX (gv1 8 19 (.pointer (some ⟨g, 1, none⟩)) rfl hX (gv1 9 20 (.pointer (some ⟨g, 1, none⟩)) rfl hX ?_))))
    refine gu1 10 21 (.pointer (some ⟨g, 1 + st.length * 2, none⟩)) rfl hX (fun w hw => run_ixarrO (E := 64) (s := 2) (m := 64) (k := .i64) rfl (by kernel_rfl) (by kernel_rfl) rfl (by kernel_rfl) (fun _ => by kernel_rfl) hlt) ?_
    refine gdS 11 ⟨none, _, _, _, _, _⟩ rfl (st_storeGP (cs := stkL s st rest) (ds := [.int .i32 c, .int .u8 a]) (1 + st.length * 2) rfl (by kernel_rfl) (by kernel_rfl) (by kernel_rfl) rfl hS1 0 rfl (by have := hlen; simp only [stkL, List.length_append, List.length_cons, List.length_nil] at this ⊢; omega) he') ?_
    intro w2 hS2
    have hn2 : (Value.int .u8 s :: (stkC ((c, a) :: st) ++ rest' ++ [Value.int .i64 (st.length : Nat)]))[129]? = some (.int .i64 (st.length : Nat)) := by rw [List.getElem?_cons_succ, List.getElem?_append_right (by omega), hl']; rfl
    refine ⟨⟨_, hS2, hn2⟩, ?_⟩
    refine gd_done (by kernel_rfl) (gx_thenN (hK9 _ _ ?_))
    refine gx_region (gx_k (.pointer (some ⟨g, 1, none⟩)) w2 (gx_k (.pointer (some ⟨g, 1, none⟩)) w2 (gx_k (.pointer (some ⟨g, 129, none⟩)) w2
      (gx_v (.int .i64 (st.length : Nat)) w2 (run_load1 rfl (by kernel_rfl) (fun _ => by kernel_rfl) (hS2.box 0 rfl 129 hn2)) (gx_k (.int .i64 (IntKind.i64.wrap ((st.length : Nat) + 1))) w2 (gx_k (.pointer (some ⟨g, 1, none⟩)) w2 (gx_k (.pointer (some ⟨g, 129, none⟩)) w2 ?_)))))))
    refine gx_s (st_store (j := 129) (v := .int .i64 (IntKind.i64.wrap ((st.length : Nat) + 1))) rfl (by kernel_rfl) (by kernel_rfl) rfl (fun _ => by kernel_rfl) hS2 0 rfl (by rw [List.length_cons, List.length_append, hl']; exact Nat.lt_succ_self 129)) ?_
    intro w3 hS3
    refine gx_nil ?_
    obtain rfl := Option.some.inj hF
    have hw : IntKind.i64.wrap (((st.length : Nat) : Int) + 1) = ((st.length + 1 : Nat) : Int) := by rw [IntKind.wrap_i64]; omega
    have hset : (Value.int .u8 s :: (stkC ((c, a) :: st) ++ rest' ++ [Value.int .i64 (st.length : Nat)])).set 129 (.int .i64 (IntKind.i64.wrap (((st.length : Nat) : Int) + 1))) = stkL s ((c, a) :: st) rest' := by
      rw [List.set_cons_succ, List.set_append_right _ _ (by omega), hl', hw]; rfl
    have hS4 : St [g] w0 w3 [boxE g (stkL s ((c, a) :: st) rest') 69] := by rw [← hset]; exact hS3
    exact gx_finN (.tuple #[]) (by kernel_rfl) (by kernel_rfl) ⟨_, rfl, rfl, stk_shut (by show st.length + 1 ≤ 64; omega) hl' hS4⟩
end Go.Proofs.YtkcmemldhbifdaaDoor

namespace Go.Proofs.YtkcmemldhbifdaaDoor
open Go Go.RowKit
set_option linter.unusedVariables false
set_option linter.unusedSimpArgs false
def encO (x : Int × Int × Int) : Array Value := #[.int .i64 x.1, .agg #[.int .i32 x.2.1, .int .u8 x.2.2]]
def oIt : List (Int × Int) → List (Int × Int × Int)
  | [] => []
  | x :: t => (((t.length : Nat) : Int), x.1, x.2) :: oIt t
def oKp (g g1 : Nat) (st : List (Int × Int)) (W : World) : Prop := W.heap[g1]? = some (.cells [.slice (some ⟨g, 1, none⟩) st.length 64].toArray 85 (0, 0)) ∧ ∃ (s : Int) (rest : List Value), W.heap[g]? = some (.cells (.int .u8 s :: (stkC st ++ rest)).toArray 69 (0, 0))
theorem oKp_ab {g g1 : Nat} {st : List (Int × Int)} {W W' : World} (hk : oKp g g1 st W) (hb : Below W.heap.size W W') : oKp g g1 st W' := by
  obtain ⟨h1, s, rest, h2⟩ := hk
  exact ⟨(hb.block _ (own_row_lt h1)).trans h1, s, rest, (hb.block _ (own_row_lt h2)).trans h2⟩
theorem stk_at {pre t : List (Int × Int)} {x : Int × Int} {s : Int} {rest : List Value} {W : World} {g : Nat} (h : W.heap[g]? = some (.cells (.int .u8 s :: (stkC (pre ++ x :: t) ++ rest)).toArray 69 (0, 0))) : W.rangeAt g (1 + t.length * 2) [.int .i32 x.1, .int .u8 x.2] := by
  have e : Value.int .u8 s :: (stkC (pre ++ x :: t) ++ rest) = (.int .u8 s :: stkC t) ++ ([Value.int .i32 x.1, .int .u8 x.2] ++ (stkC pre ++ rest)) := by simp [stkC]
  rw [e] at h
  have hl : (Value.int .u8 s :: stkC t).length = 1 + t.length * 2 := by rw [List.length_cons, stkC_len]; omega
  have hr := range_box (g := g) (T := 69) (cs := (.int .u8 s :: stkC t) ++ ([Value.int .i32 x.1, .int .u8 x.2] ++ (stkC pre ++ rest))) h
  have hs := range_sub hr (1 + t.length * 2) 2
  rw [List.drop_append, List.drop_eq_nil_of_le (by omega), hl, Nat.sub_self] at hs
  simpa using hs
set_option maxRecDepth 100000 in
set_option maxHeartbeats 4000000 in
theorem oBack1_iter (g g1 : Nat) (st : List (Int × Int)) (h64 : st.length ≤ 64) : Iter Tryd.prog (.func (.func 46) #[] #[.pointer (some ⟨g1, 0, none⟩)]) encO (oIt st) (oKp g g1 st) := by
 refine ⟨_, _, rfl, fun _ _ => by kernel_rfl, ?_⟩
 intro n l J Jx W hab habx hY hk hJ
 have hS0 := St.start W
 refine callsin_of Tryd.func46 rfl ⟨((.func (.yield l) #[] #[]) :: (.pointer (some ⟨g1, 0, none⟩)) :: un 17 ([])).toArray, []⟩ (by kernel_rfl) ?_
 refine gx_seq (fun K1 hK2 => ?_)
 refine gx_region ?_
 refine gx_v (.slice (some ⟨g, 1, none⟩) st.length 64) W (run_load1 rfl (by kernel_rfl) (fun _ => by kernel_rfl) (hS0.read hk.1 0 rfl)) ?_
 refine gx_k (.int .i64 ((st.length : Nat) : Int)) W (gx_k (.int .i64 (IntKind.i64.wrap (((st.length : Nat) : Int) - 1))) W (gx_k (.int .i64 (IntKind.i64.wrap (((st.length : Nat) : Int) - 1))) W ?_))
 refine gx_nil ?_
 refine gx_thenN ?_
 refine hK2 _ _ ?_
 refine gx_block ?_
 refine gx_loop (fun k a w => ∃ (x6 : Int) (t pre : List (Int × Int)) (wb7 : World) (its8 : List (Int × Int × Int)) (u5 : Nat → Value), a = ⟨((.func (.yield l) #[] #[]) :: (.pointer (some ⟨g1, 0, none⟩)) :: undef :: (.int .i64 x6) :: (.slice (some ⟨g, 1, none⟩) st.length 64) :: (.int .i64 ((st.length : Nat) : Int)) :: (.int .i64 (IntKind.i64.wrap (((st.length : Nat) : Int) - 1))) :: dd u5 0 12 ([])).toArray, []⟩ ∧ (x6 = IntKind.i64.wrap (((t.length : Nat) : Int) - 1) ∧ st = pre ++ t ∧ t.length < k ∧ its8 = oIt t) ∧ St [] wb7 w [] ∧ J its8 wb7 ∧ (oKp g g1 st) wb7) (st.length + 1) ?_ ?_
 ·exact ⟨(IntKind.i64.wrap (((st.length : Nat) : Int) - 1)), st, [], W, oIt st, (fun i => List.getD (undef :: undef :: undef :: undef :: undef :: undef :: undef :: undef :: undef :: undef :: undef :: undef :: []) i undef), by kernel_rfl, ⟨rfl, rfl, Nat.lt_succ_self _, rfl⟩, hS0, hJ, hk⟩
 ·rintro k11 _ w3 ⟨x6, t, pre, wb7, its8, u5, rfl, ⟨hx6, hst, hlt, rfl⟩, hS4, hJ9, hk10⟩
  have ht64 : t.length ≤ 64 := by rw [hst, List.length_append] at h64; omega
  have hwr : IntKind.i64.wrap (((t.length : Nat) : Int) - 1) = ((t.length : Nat) : Int) - 1 := by rw [IntKind.wrap_i64]; omega
  rw [hwr] at hx6
  cases k11 with
  | zero => omega
  | succ k11 =>
   refine gx_seq (fun K13 hK14 => ?_)
   refine gx_seq (fun K15 hK16 => ?_)
   refine gx_region ?_
   refine gx_k (.int .i64 x6) w3 ?_
   rcases t with _ | ⟨x, t⟩
   rotate_left
   ·obtain rfl : x6 = ((t.length : Nat) : Int) := by rw [hx6, List.length_cons]; omega
    have h17 : ((t.length : Nat) : Int) ≥ 0 := by omega
    have hJ9 : J ((((t.length : Nat) : Int), x.1, x.2) :: oIt t) wb7 := hJ9
    have hlt2 : ((t.length : Nat) : Int) < (st.length : Nat) := by rw [hst, List.length_append, List.length_cons]; omega
    obtain ⟨hk1, s, rest, hg⟩ := oKp_ab hk10 hS4.below
    rw [hst] at hg
    have hrange := stk_at hg
    refine gx_v (.bool true) w3 (run_boolE (decide_eq_true h17) (by kernel_rfl)) ?_
    refine gx_nil ?_
    refine gx_thenN ?_
    refine hK16 _ _ ?_
    refine gx_yes (by kernel_rfl) ?_
    refine gx_pass ?_
    refine gx_thenN ?_
    refine hK14 _ _ ?_
    refine gx_seq (fun K18 hK19 => ?_)
    refine gx_block ?_
    refine gx_seq (fun K20 hK21 => ?_)
    refine gx_region ?_
    refine gx_k (.func (.yield l) #[] #[]) w3 (gx_k (.int .i64 ((t.length : Nat) : Int)) w3 ?_)
    refine gx_v (.slice (some ⟨g, 1, none⟩) st.length 64) w3 (run_load1 rfl (by kernel_rfl) (fun _ => by kernel_rfl) (hS4.read hk10.1 0 rfl)) ?_
    refine gx_k (.int .i64 ((t.length : Nat) : Int)) w3 ?_
    refine gx_v (.pointer (some ⟨g, 1 + t.length * 2, none⟩)) w3 (run_ixaddrN (A := some ⟨g, 1, none⟩) (E := 64) (s := 2) (k := .i64) (c := 64) rfl (by kernel_rfl) (by kernel_rfl) (by kernel_rfl) (fun _ => by kernel_rfl) h17 hlt2 (by simp [add_flat])) ?_
    refine gx_v (.agg #[.int .i32 x.1, .int .u8 x.2]) w3 (run_loadNG (g := g) (off := 1 + t.length * 2) (ec := [.int .i32 x.1, .int .u8 x.2]) rfl (by kernel_rfl) hrange Tryd.underlying64 rfl (by kernel_rfl)) ?_
    refine gx_yield (fun v w => (v = .bool true ∧ J (oIt t) w ∧ (oKp g g1 st) w) ∨ (v = .bool false ∧ Jx w ∧ (oKp g g1 st) w)) (by kernel_rfl) (run_yieldcall2 rfl (by kernel_rfl) (by kernel_rfl) (by kernel_rfl)) (yield_out (hY _ _ _ (hab _ _ _ hJ9 hS4.below) (oKp_ab hk10 hS4.below))) ?_
    rintro _ w26 (⟨rfl, hJ27, hk28⟩ | ⟨rfl, hx29, hk28⟩)
    ·have hS30 := St.start w26
     refine gx_k (.bool false) w26 ?_
     refine gx_nil ?_
     refine gx_thenN ?_
     refine hK21 _ _ ?_
     refine gx_no (by kernel_rfl) ?_
     refine gx_pass ?_
     refine gx_blkN ?_
     refine gx_thenN ?_
     refine hK19 _ _ ?_
     refine gx_region ?_
     refine gx_k (.int .i64 ((t.length : Nat) : Int)) w26 (gx_k (.int .i64 (IntKind.i64.wrap (((t.length : Nat) : Int) - 1))) w26 (gx_k (.int .i64 (IntKind.i64.wrap (((t.length : Nat) : Int) - 1))) w26 ?_))
     refine gx_nil ?_
     refine gx_thenN ?_
     exact ⟨k11, Nat.lt_succ_self k11, (IntKind.i64.wrap (((t.length : Nat) : Int) - 1)), t, pre ++ [x], w26, oIt t, (fun i => List.getD ((.int .i64 ((t.length : Nat) : Int)) :: (.bool true) :: (.int .i64 ((t.length : Nat) : Int)) :: (.int .i64 (IntKind.i64.wrap (((t.length : Nat) : Int) - 1))) :: (.func (.yield l) #[] #[]) :: (.int .i64 ((t.length : Nat) : Int)) :: (.slice (some ⟨g, 1, none⟩) st.length 64) :: (.int .i64 ((t.length : Nat) : Int)) :: (.pointer (some ⟨g, 1 + t.length * 2, none⟩)) :: (.agg #[.int .i32 x.1, .int .u8 x.2]) :: (.bool true) :: (.bool false) :: []) i undef), by kernel_rfl, ⟨rfl, by rw [hst]; simp, by simp only [List.length_cons] at hlt; omega, rfl⟩, hS30, hJ27, hk28⟩
    ·have hS30 := St.start w26
     refine gx_k (.bool true) w26 ?_
     refine gx_nil ?_
     refine gx_thenN ?_
     refine hK21 _ _ ?_
     refine gx_yes (by kernel_rfl) ?_
     refine gx_ret ?_
     refine gx_blkR ?_
     refine gx_thenR ?_
     refine gx_thenR ?_
     refine gx_blkR ?_
     exact gx_fin (.tuple #[]) (by kernel_rfl) (by kernel_rfl) ⟨⟨_, rfl⟩, .inr (habx _ _ hx29 hS30.below)⟩
   ·have h17 : ¬ x6 ≥ 0 := by rw [hx6]; decide
    refine gx_v (.bool false) w3 (run_boolE (decide_eq_false h17) (by kernel_rfl)) ?_
    refine gx_nil ?_
    refine gx_thenN ?_
    refine hK16 _ _ ?_
    refine gx_no (by kernel_rfl) ?_
    refine gx_exit ?_
    refine gx_thenE ?_
    refine gx_thenE ?_
    refine gx_blkE ?_
    have hJ9 : J [] wb7 := hJ9
    exact gx_finN (.tuple #[]) (by kernel_rfl) (by kernel_rfl) ⟨⟨_, rfl⟩, .inl (hab _ _ _ hJ9 hS4.below)⟩
def oBack (_N : Nat) : Option (Unit) :=
 some ()
def oBack_R (A0 : Option Addr) (n0 : Nat) (c0 : Nat) (_r : Unit) (w0 : World) (v : Value) (w : World) : Prop := ∃ (g0' : Nat), v = .func (.func 46) #[] #[.pointer (some ⟨g0', 0, none⟩)] ∧ St [] w0 w [boxE g0' [.slice A0 n0 c0] 85]
set_option maxRecDepth 100000 in
set_option maxHeartbeats 4000000 in
theorem oBack_ok (N : Nat) (A0 : Option Addr) (n0 c0 : Nat) (r : Unit) (hF : oBack N = some r) (w0 : World)  :
  Calls Tryd.prog 45 #[.slice A0 n0 c0] w0 fun e w => ∃ v, e = .returned v ∧ oBack_R A0 n0 c0 r w0 v w := by
 have hS0 := St.start w0
 unfold oBack at hF
 refine calls_of Tryd.func45 rfl ⟨((.slice A0 n0 c0) :: un 3 ([])).toArray, []⟩ (by kernel_rfl) ?_
 refine gx_seq (fun K1 hK2 => ?_)
 refine gx_region ?_
 refine gx_r (st_boxed [.slice A0 n0 c0] 85 hS0 (by kernel_rfl)) ?_
 rintro _ w3 ⟨rfl, hS4⟩
 have hS4 : St _ _ w3 [boxE w0.heap.size [.slice A0 n0 c0] 85] := hS4
 refine gx_k (Value.nilFunc) w3 ?_
 refine gx_nil ?_
 refine gx_thenN ?_
 refine hK2 _ _ ?_
 refine gx_seq (fun K5 hK6 => ?_)
 refine gx_region ?_
 refine gx_k (.func (.func 46) #[] #[.pointer (some ⟨w0.heap.size, 0, none⟩)]) w3 (gx_k (.func (.func 46) #[] #[.pointer (some ⟨w0.heap.size, 0, none⟩)]) w3 ?_)
 refine gx_nil ?_
 refine gx_thenN ?_
 refine hK6 _ _ ?_
 refine gx_ret ?_
 obtain rfl := Option.some.inj hF
 exact gx_fin (.func (.func 46) #[] #[.pointer (some ⟨w0.heap.size, 0, none⟩)]) (by kernel_rfl) (by kernel_rfl) ⟨_, rfl, w0.heap.size, rfl, hS4⟩
end Go.Proofs.YtkcmemldhbifdaaDoor

namespace Go.Proofs.YtkcmemldhbifdaaDoor
open Go Go.RowKit
set_option linter.unusedVariables false
set_option linter.unusedSimpArgs false
theorem run_slicearrO {P : Program} {w : World} {ρ : Operand → Value} {o : Oper} {T E s m g b n : Nat} {x y : Operand} {z : Int} (ho : o.op = .slice T x none (some y) none) (hx : ρ x = .pointer (some ⟨g, b, none⟩)) (hy : ρ y = .int .i64 z) (hz : z = (n : Int)) (hT : P.underlying T = some (.array m E)) (hs : ∀ w, (Go.sizeOf E).run P w = .ok s w) (hn : n ≤ m) :
    (execOp ρ o).run P w = .ok (.value (.slice (some ⟨g, b, none⟩) n m)) w := by
  subst hz
  have hb : (Instr.sliceBounds false m m none (some (.int .i64 (n : Int))) none).run P w = .ok (0, n, m) w := by
    simp [Instr.sliceBounds, Instr.sliceBound, asIntOf, asInt, hn, Sem.run_bind, Result.andThen]
  unfold execOp
  rw [ho]
  simp only [hx, hy, Option.map_none, Option.map_some, Instr.sliceAt, Sem.run_bind, run_underlying hT, Result.andThen_ok, Instr.sureAddr, Sem.run_pure, hb, hs]
  simp [add_flat]
def popK (c : Int) : List (Int × Int) → Option (Int × List (Int × Int))
  | [] => none
  | x :: t => if x.1 = c then some (x.2, t) else popK c t
def kTake (p : Int × List (Int × Int)) (c : Int) : Option ((Int × List (Int × Int)) × Int × Bool) := some (match popK c p.2 with | none => (p, 0, false) | some (a, st') => ((p.1, st'), a, true))
theorem popK_suf {c : Int} : ∀ {st : List (Int × Int)} {a : Int} {st' : List (Int × Int)}, popK c st = some (a, st') → ∃ pre, st = pre ++ st' ∧ st'.length < st.length
  | [], _, _, h => by cases h
  | x :: t, a, st', h => by
    rw [popK] at h
    split at h
    · injection h with h; injection h with h1 h2; subst h2; exact ⟨[x], rfl, by simp⟩
    · obtain ⟨pre, e, hl⟩ := popK_suf h
      exact ⟨x :: pre, by rw [e]; rfl, by rw [List.length_cons]; omega⟩
theorem stk_suf {pre st' : List (Int × Int)} {rest : List Value} (h : (stkC (pre ++ st') ++ rest).length = 128) : ∃ rest', (stkC st' ++ rest').length = 128 ∧ stkC (pre ++ st') ++ rest = stkC st' ++ rest' := by
  refine ⟨stkC pre ++ rest, ?_, ?_⟩
  · rw [← h]; simp [stkC]
  · simp [stkC]
theorem gx_calm {ro : Option Nat} {n : Nat} {P : Program} {c : Code} {Q : Exit → Act → World → Prop} {a : Act} {w : World} (h : WC ro n P c (Exit.then (fun a w => Q .normal a w) (fun _ _ _ => False)) a w) : WC ro n P c Q a w :=
  ⟨wpIn_mono h.out (by rintro e a w hp; cases e <;> first | exact hp | exact hp.elim)⟩
abbrev tkE (g b2 b3 b4 b5 : Nat) (cs : List Value) (c r0 : Int) (r1 : Bool) : List Ent :=
  [boxE g cs 69, boxE b2 [.pointer (some ⟨g, 1, none⟩)] 81, boxE b3 [.int .i32 c] 21, boxE b4 [.int .u8 r0] 5, boxE b5 [.bool r1] 4]
set_option maxRecDepth 100000 in
set_option maxHeartbeats 4000000 in
theorem kTake_ok (g : Nat) (s : Int) (st : List (Int × Int)) (c : Int) (r : (Int × List (Int × Int)) × Int × Bool) (hF : kTake (s, st) c = some r) (w0 : World) (hE : St [g] w0 w0 [pstE g (s, st)]) :
    Calls Tryd.prog 38 #[.pointer (some ⟨g, 1, none⟩), .int .i32 c] w0 fun e w => ∃ v, e = .returned v ∧ v = .tuple #[.int .u8 r.2.1, .bool r.2.2] ∧ St [g] w0 w [pstE g r.1] := by
 obtain ⟨h64, rest, hlen, hS0⟩ := stk_open hE
 have hn := stk_n (s := s) (st := st) hlen
 refine calls_ofM Tryd.func38 rfl ⟨((.pointer (some ⟨g, 1, none⟩)) :: (.int .i32 c) :: un 27 []).toArray, []⟩ (by kernel_rfl) (gx_seq (fun K1 hK2 => gx_region (gx_r (st_boxed [.pointer (some ⟨g, 1, none⟩)] 81 hS0 (by kernel_rfl)) ?_)))
 rintro _ w1 ⟨rfl, hS1⟩
 refine gx_r (st_boxed [.int .i32 c] 21 hS1 (by kernel_rfl)) ?_
 rintro _ w2 ⟨rfl, hS2⟩
 refine gx_r (st_boxed [.int .u8 0] 5 hS2 (by kernel_rfl)) ?_
 rintro _ w3 ⟨rfl, hS3⟩
 refine gx_r (st_boxed [.bool false] 4 hS3 (by kernel_rfl)) ?_
 rintro _ w4 ⟨rfl, hS4⟩
 have hS4 : St [g] w0 w4 (tkE g w0.heap.size w1.heap.size w2.heap.size w3.heap.size (stkL s st rest) c 0 false) := hS4
 refine gx_nil (gx_thenN (hK2 _ _ ?_))
 generalize w0.heap.size = b2 at hS4 ⊢
 generalize w1.heap.size = b3 at hS4 ⊢
 generalize w2.heap.size = b4 at hS4 ⊢
 generalize w3.heap.size = b5 at hS4 ⊢
 refine gx_seq (fun K3 hK4 => gx_seq (fun K5 hK6 => gx_calm (gd_start (fun w => St [g] w0 w (tkE g b2 b3 b4 b5 (stkL s st rest) c 0 false)) 9 #[false, false, false, false, false, false, false, false, false] (by kernel_rfl) (by kernel_rfl) ?_)))
 have hX := hS4.drew
 refine gu1 0 8 (.pointer (some ⟨g, 1, none⟩)) rfl hX (fun w hw => run_load1 rfl (by kernel_rfl) (fun _ => by kernel_rfl) (hw.box 1 rfl 0 rfl)) (gv1 1 9 (.pointer (some ⟨g, 1, none⟩)) rfl hX (gv1 2 10 (.pointer (some ⟨g, 1, none⟩)) rfl hX ?_))
 refine gu1 3 11 (.pointer (some ⟨g, 1, none⟩)) rfl hX (fun w hw => run_load1 rfl (by kernel_rfl) (fun _ => by kernel_rfl) (hw.box 1 rfl 0 rfl)) (gv1 4 12 (.pointer (some ⟨g, 1, none⟩)) rfl hX (gv1 5 13 (.pointer (some ⟨g, 129, none⟩)) rfl hX ?_))
 refine gu1 6 14 (.int .i64 (st.length : Nat)) rfl hX (fun w hw => run_load1 rfl (by kernel_rfl) (fun _ => by kernel_rfl) (hw.box 0 rfl 129 hn)) ?_
 refine gu1 7 15 (.slice (some ⟨g, 1, none⟩) st.length 64) rfl hX (fun w hw => run_slicearrO (E := 64) (s := 2) rfl (by kernel_rfl) (by kernel_rfl) rfl (by kernel_rfl) (fun _ => by kernel_rfl) h64) ?_
 refine gdC 8 _ (oBack_R (some ⟨g, 1, none⟩) st.length 64 () _) rfl (by kernel_rfl) (oBack_ok 0 (some ⟨g, 1, none⟩) st.length 64 _ rfl _) ?_
 rintro _ w9 ⟨g12, rfl, hT11⟩
 have hS10 : St [g] w0 w9 (tkE g b2 b3 b4 b5 (stkL s st rest) c 0 false ++ [boxE g12 [.slice (some ⟨g, 1, none⟩) st.length 64] 85]) := hX.take _ hT11
 refine ⟨hS10.pick [0, 1, 2, 3, 4] rfl rfl, gd_done (by kernel_rfl) (gx_thenN (hK6 _ _ (gx_block ?_)))⟩
 refine gx_rangeV (v := .func (.func 46) #[] #[.pointer (some ⟨g12, 0, none⟩)]) (enc := encO) (items := oIt st) (kp := oKp g g12 st) (es := tkE g b2 b3 b4 b5 (stkL s st rest) c 0 false) (ks := [boxE g12 [.slice (some ⟨g, 1, none⟩) st.length 64] 85]) (by kernel_rfl) (oBack1_iter g g12 st h64) (fun ⟨_, _, _⟩ => rfl) hS10
   (fun rs es => ∃ t, rs = oIt t ∧ (∃ pre, st = pre ++ t) ∧ popK c st = popK c t ∧ es = tkE g b2 b3 b4 b5 (stkL s st rest) c 0 false)
   (fun es => ∃ a st', popK c st = some (a, st') ∧ es = tkE g b2 b3 b4 b5 (.int .u8 s :: (stkC st ++ rest ++ [.int .i64 (st'.length : Nat)])) c a true)
   ?_ .ret ⟨st, rfl, ⟨[], rfl⟩, rfl, rfl⟩ ?_ ?_ ?_
 · rintro W es' (⟨_, t, rfl, _, _, rfl⟩ | ⟨a, st', _, rfl⟩) h
   · exact ⟨h.get 5 rfl, s, rest ++ [.int .i64 (st.length : Nat)], by have := h.get 0 rfl; rw [← List.append_assoc]; exact this⟩
   · exact ⟨h.get 5 rfl, s, rest ++ [.int .i64 (st'.length : Nat)], by have := h.get 0 rfl; rw [← List.append_assoc]; exact this⟩
 · rintro l26 r27 r28 ⟨u, c2, a⟩ its W _ ⟨t, hit, ⟨pre, hst⟩, hpop, rfl⟩ D1 hP
   have hS30 := hP.feetP
   rcases t with _ | ⟨x, t⟩
   · cases hit
   rw [oIt] at hit
   injection hit with hit1 hits
   injection hit1 with hu hit2
   injection hit2 with hc2 ha
   subst hu; subst ha; subst hc2; subst hits
   refine gx_act ⟨((.pointer (some ⟨g, 1, none⟩)) :: (.int .i32 c) :: (.pointer (some ⟨b2, 0, none⟩)) :: (.pointer (some ⟨b3, 0, none⟩)) :: (.pointer (some ⟨b4, 0, none⟩)) :: (.pointer (some ⟨b5, 0, none⟩)) :: undef :: undef :: (.pointer (some ⟨g, 1, none⟩)) :: (.pointer (some ⟨g, 1, none⟩)) :: (.pointer (some ⟨g, 1, none⟩)) :: (.pointer (some ⟨g, 1, none⟩)) :: (.pointer (some ⟨g, 1, none⟩)) :: (.pointer (some ⟨g, 129, none⟩)) :: (.int .i64 (st.length : Nat)) :: (.slice (some ⟨g, 1, none⟩) st.length 64) :: (.func (.func 46) #[] #[.pointer (some ⟨g12, 0, none⟩)]) :: (.int .i64 (t.length : Nat)) :: (.agg #[.int .i32 x.1, .int .u8 x.2]) :: un 10 []).toArray, []⟩ (by kernel_rfl) ?_
   refine gx_seq (fun K13 hK14 => gx_region (gx_k (.int .i64 (t.length : Nat)) W (gx_nil (gx_thenN (hK14 _ _ ?_)))))
   refine gx_region (gx_r (st_boxed [.int .i32 0, .int .u8 0] 64 hS30 (by kernel_rfl)) ?_)
   rintro _ W1 ⟨rfl, hS31⟩
   refine gx_s (st_storeGP (cs := [.int .i32 0, .int .u8 0]) (ds := [.int .i32 x.1, .int .u8 x.2]) (cs' := [.int .i32 x.1, .int .u8 x.2]) 0 rfl (by kernel_rfl) (by kernel_rfl) (by kernel_rfl) rfl hS31 6 rfl (by show 0 + 2 ≤ 2; decide) rfl) ?_
   intro W2 hS32
   generalize W.heap.size = b7 at hS32 ⊢
   have hS32 : St _ _ W2 (objE l26 r27 :: (tkE g b2 b3 b4 b5 (stkL s st rest) c 0 false ++ [boxE b7 [.int .i32 x.1, .int .u8 x.2] 64])) := hS32
   refine gx_nil (gx_thenN ?_)
   refine ⟨_, hS32, fun w31 hS33 => ?_⟩
   refine gx_block (gx_seq (fun K15 hK16 => gx_region (gx_k (.pointer (some ⟨b7, 0, none⟩)) w31 (gx_v (.int .i32 x.1) w31 (run_load1 rfl (by kernel_rfl) (fun _ => by kernel_rfl) (hS33.box 6 rfl 0 rfl)) (gx_v (.int .i32 c) w31 (run_load1 rfl (by kernel_rfl) (fun _ => by kernel_rfl) (hS33.box 3 rfl 0 rfl)) ?_)))))
   rw [popK] at hpop
   by_cases hx : x.1 = c
   · rw [if_pos hx] at hpop
     refine gx_v (.bool true) w31 (run_boolE (decide_eq_true hx) (by kernel_rfl)) (gx_nil (gx_thenN (hK16 _ _ (gx_yes (by kernel_rfl) ?_))))
     refine gx_seq (fun K17 hK18 => gx_region (gx_v (.pointer (some ⟨g, 1, none⟩)) w31 (run_load1 rfl (by kernel_rfl) (fun _ => by kernel_rfl) (hS33.box 2 rfl 0 rfl)) (gx_k (.int .i64 (t.length : Nat)) w31 (gx_k (.pointer (some ⟨g, 1, none⟩)) w31 (gx_k (.pointer (some ⟨g, 129, none⟩)) w31 ?_)))))
     refine gx_s (st_store (j := 129) (v := .int .i64 (t.length : Nat)) rfl (by kernel_rfl) (by kernel_rfl) rfl (fun _ => by kernel_rfl) hS33 1 rfl (by unfold stkL; rw [List.length_cons, List.length_append, hlen]; exact Nat.lt_succ_self 129)) ?_
     intro W3 hS34
     refine gx_nil (gx_thenN (hK18 _ _ ?_))
     refine gx_seq (fun K19 hK20 => gx_region (gx_k (.pointer (some ⟨b7, 1, none⟩)) W3 (gx_v (.int .u8 x.2) W3 (run_load1 rfl (by kernel_rfl) (fun _ => by kernel_rfl) (hS34.box 6 rfl 1 rfl)) ?_)))
     refine gx_s (st_store (j := 0) (v := .int .u8 x.2) rfl (by kernel_rfl) (by kernel_rfl) rfl (fun _ => by kernel_rfl) hS34 4 rfl (by show 0 < 1; decide)) ?_
     intro W4 hS35
     refine gx_s (st_store (j := 0) (v := .bool true) rfl (by kernel_rfl) (by kernel_rfl) rfl (fun _ => by kernel_rfl) hS35 5 rfl (by show 0 < 1; decide)) ?_
     intro W5 hS36
     refine gx_nil (gx_thenN (hK20 _ _ (gx_ret (gx_blkR ?_))))
     have hset : (stkL s st rest).set 129 (.int .i64 (t.length : Nat)) = .int .u8 s :: (stkC st ++ rest ++ [.int .i64 (t.length : Nat)]) := by
       unfold stkL
       rw [List.set_cons_succ, List.set_append_right _ _ (by omega), hlen]; rfl
     have hS37 : St _ _ W5 (objE l26 r28 :: (tkE g b2 b3 b4 b5 ((stkL s st rest).set 129 (.int .i64 (t.length : Nat))) c x.2 true ++ [boxE b7 [.int .i32 x.1, .int .u8 x.2] 64])) := hS36
     rw [hset] at hS37
     exact ⟨⟨rfl, _, hS37.pick [0, 1, 2, 3, 4, 5] rfl rfl, x.2, t, hpop, rfl⟩⟩
   · rw [if_neg hx] at hpop
     refine gx_v (.bool false) w31 (run_boolE (decide_eq_false hx) (by kernel_rfl)) (gx_nil (gx_thenN (hK16 _ _ (gx_no (by kernel_rfl) (gx_pass (gx_blkN ?_))))))
     exact ⟨⟨_, hS33.pick [0, 1, 2, 3, 4, 5] rfl rfl, t, rfl, ⟨pre ++ [x], by rw [hst]; simp⟩, hpop, rfl⟩⟩
 · rintro D W _ ⟨t, hit, _, hpop, rfl⟩ hS50
   rcases t with _ | ⟨x, t⟩
   rotate_left
   · cases hit
   rw [popK] at hpop
   have hS50 : St _ _ W (objE D (.deferred (some [])) :: (tkE g b2 b3 b4 b5 (stkL s st rest) c 0 false ++ [boxE g12 [.slice (some ⟨g, 1, none⟩) st.length 64] 85])) := hS50
   refine gx_blkN (gx_thenN (hK4 _ _ (gx_seq (fun K51 hK52 => gx_region ?_))))
   refine gx_s (st_store (j := 0) (v := .int .u8 0) rfl (by kernel_rfl) (by kernel_rfl) rfl (fun _ => by kernel_rfl) hS50 4 rfl (by show 0 < 1; decide)) ?_
   intro W3 hS51
   refine gx_s (st_store (j := 0) (v := .bool false) rfl (by kernel_rfl) (by kernel_rfl) rfl (fun _ => by kernel_rfl) hS51 5 rfl (by show 0 < 1; decide)) ?_
   intro W4 hS52
   refine gx_nil (gx_thenN (hK52 _ _ (gx_ret ?_)))
   have hS53 : St _ _ W4 (objE D (.deferred (some [])) :: (tkE g b2 b3 b4 b5 (stkL s st rest) c 0 false ++ [boxE g12 [.slice (some ⟨g, 1, none⟩) st.length 64] 85])) := hS52
   have hr : r = ((s, st), 0, false) := by unfold kTake at hF; simp only [hpop] at hF; exact (Option.some.inj hF).symm
   subst hr
   exact gx_finM1 (es := [boxE b4 [.int .u8 0] 5, boxE b5 [.bool false] 4, boxE g (stkL s st rest) 69]) (.tuple #[.int .u8 0, .bool false]) (by kernel_rfl) (hS53.pick [0, 4, 5, 1] rfl rfl)
     (fun w hS => ⟨res_c2 rfl (by kernel_rfl) (by kernel_rfl) (hS.box 0 rfl 0 rfl) (by kernel_rfl) (by kernel_rfl) (hS.box 1 rfl 0 rfl), _, rfl, rfl, stk_shut h64 hlen (hS.pick [2] rfl rfl)⟩)
 · rintro D W _ ⟨a, st', hpop, rfl⟩ hS50
   have hS50 : St _ _ W (objE D (.deferred (some [])) :: (tkE g b2 b3 b4 b5 (.int .u8 s :: (stkC st ++ rest ++ [.int .i64 (st'.length : Nat)])) c a true ++ [boxE g12 [.slice (some ⟨g, 1, none⟩) st.length 64] 85])) := hS50
   refine gx_ret (gx_blkR (gx_thenR ?_))
   have hr : r = ((s, st'), a, true) := by unfold kTake at hF; simp only [hpop] at hF; exact (Option.some.inj hF).symm
   subst hr
   obtain ⟨pre, hst, hlt⟩ := popK_suf hpop
   obtain ⟨rest', hl', he'⟩ := stk_suf (pre := pre) (st' := st') (rest := rest) (by rw [← hst]; exact hlen)
   rw [← hst] at he'
   have hfin : ∀ w, St [g] w0 w [boxE g (.int .u8 s :: (stkC st ++ rest ++ [.int .i64 (st'.length : Nat)])) 69] → St [g] w0 w [pstE g (s, st')] := by
     intro w h2
     rw [he'] at h2
     exact stk_shut (by omega) hl' h2
   exact gx_finM1 (es := [boxE b4 [.int .u8 a] 5, boxE b5 [.bool true] 4, boxE g (.int .u8 s :: (stkC st ++ rest ++ [.int .i64 (st'.length : Nat)])) 69]) (.tuple #[.int .u8 a, .bool true]) (by kernel_rfl) (hS50.pick [0, 4, 5, 1] rfl rfl)
     (fun w hS => ⟨res_c2 rfl (by kernel_rfl) (by kernel_rfl) (hS.box 0 rfl 0 rfl) (by kernel_rfl) (by kernel_rfl) (hS.box 1 rfl 0 rfl), _, rfl, rfl, hfin w (hS.pick [2] rfl rfl)⟩)
end Go.Proofs.YtkcmemldhbifdaaDoor

namespace Go.Proofs.YtkcmemldhbifdaaDoor
open Go Go.RowKit
set_option linter.unusedVariables false
set_option linter.unusedSimpArgs false
def ptS (p : Int × List (Int × Int)) (s : Int) : Int × List (Int × Int) := if s ≠ 0 then (s, p.2) else p
def kRead (N : Nat) (p : Int × List (Int × Int)) (r : Int) : Option (Int × List (Int × Int)) :=
  (pOwn N r).bind fun s => (ucBr N r).bind fun (c, o, k) =>
    if k = true then (if o = true then kPut (ptS p s) c (ptS p s).1 else (kTake (ptS p s) c).bind fun (q, a, b) => some (if b = true then (a, q.2) else q)) else some (ptS p s)
def kRead_R (g : Nat) (r : Int × List (Int × Int)) (w0 : World) (v : Value) (w : World) : Prop := v = .tuple #[] ∧ St [g] w0 w [pstE g r]
section
variable {bs : List Nat} {w0 w : World} {es : List Ent} {g : Nat} {p : Int × List (Int × Int)} {P : Program} {o : Oper} {ρ : Operand → Value}
theorem St.pst0 (h : St bs w0 w es) (i : Nat) (hi : es[i]? = some (pstE g p)) : w.cell? ⟨g, 0, none⟩ = some (.int .u8 p.1) := by
  obtain ⟨_, rest, h2, h3⟩ := h.get i hi
  rw [cell_of_row w g 0 _ _ (0, 0) h3]
  rfl
theorem st_pst1 {T : Nat} {x y : Operand} {s : Int} (ho : o.op = .store T x y) (hx : ρ x = .pointer (some ⟨g, 0, none⟩)) (hy : ρ y = .int .u8 s) (hs : ∀ w, (Go.sizeOf T).run P w = .ok 1 w) (h : St bs w0 w es) (i : Nat) (hi : es[i]? = some (pstE g p)) :
    ∃ w', (execOp ρ o).run P w = .ok .skip w' ∧ St bs w0 w' (es.set i (pstE g (s, p.2))) := by
  obtain ⟨h1, rest, h2, h3⟩ := h.get i hi
  have hi1 : i < es.length := (List.getElem?_eq_some_iff.1 hi).1
  have hb := h.same i hi (e' := boxE g (stkL p.1 p.2 rest) 69) h3 rfl
  obtain ⟨w', hr, hw⟩ := st_store (P := P) (o := o) (ρ := ρ) (j := 0) (v := .int .u8 s) ho hx hy rfl hs hb i (by rw [List.getElem?_set_self hi1]) (by simp [stkL])
  refine ⟨w', hr, ?_⟩
  rw [List.set_set] at hw
  have hg := hw.get (e := boxE g ((stkL p.1 p.2 rest).set 0 (.int .u8 s)) 69) i (by rw [List.getElem?_set_self hi1])
  have := hw.same (e := boxE g ((stkL p.1 p.2 rest).set 0 (.int .u8 s)) 69) i (by rw [List.getElem?_set_self hi1]) (e' := pstE g (s, p.2)) ⟨h1, rest, h2, hg⟩ rfl
  rwa [List.set_set] at this
end
set_option maxRecDepth 100000 in
set_option maxHeartbeats 4000000 in
theorem kRead_ok (N : Nat) (g : Nat) (p : Int × List (Int × Int)) (r : Int) (q : Int × List (Int × Int)) (hF : kRead N p r = some q) (w0 : World) (hcd : MirB [g] w0) (hE : St [g] w0 w0 [pstE g p]) :
    Calls Tryd.prog 30 #[.pointer (some ⟨g, 0, none⟩), .int .i32 r] w0 fun e w => ∃ v, e = .returned v ∧ kRead_R g q w0 v w := by
  unfold kRead at hF
  refine calls_of Tryd.func30 rfl ⟨((.pointer (some ⟨g, 0, none⟩)) :: (.int .i32 r) :: un 49 []).toArray, []⟩ (by kernel_rfl) ?_
  obtain ⟨s, hc, hF⟩ := bind_in hF
  refine gx_cut (fun a w => ∃ u : Nat → Value, a = ⟨((.pointer (some ⟨g, 0, none⟩)) :: (.int .i32 r) :: undef :: undef :: (.int .u8 s) :: un 5 ((.int .i32 r) :: (.int .u8 s) :: (.int .u8 s) :: dd u 0 5 (un 33 []))).toArray, []⟩ ∧ St [g] w0 w [pstE g (ptS p s)]) ?_ ?_
  · refine gx_seq (fun K3 hK4 => gx_region (gx_k (.int .i32 r) w0 ?_))
    have hP0 : St [g] w0 w0 ([] ++ [pstE g p]) := hE
    refine gx_c (pOwn_R s w0) (pOwn_ok N r _ hc w0) ?_
    rintro _ w1 ⟨rfl, hT⟩
    have hS1 : St [g] w0 w1 [pstE g p] := by simpa using hP0.lendN _ hT
    refine gx_k (.int .u8 s) w1 (gx_nil (gx_thenN (hK4 _ _ (gx_seq (fun K5 hK6 => gx_region (gx_k (.int .u8 s) w1 ?_))))))
    by_cases hs : s ≠ 0
    · refine gx_v (.bool true) w1 (run_boolE (ne_yes hs) (by kernel_rfl)) (gx_nil (gx_thenN (hK6 _ _ (gx_yes (by kernel_rfl) (gx_region (gx_k (.pointer (some ⟨g, 0, none⟩)) w1 (gx_k (.int .u8 s) w1 (gx_k (.pointer (some ⟨g, 0, none⟩)) w1 (gx_k (.pointer (some ⟨g, 0, none⟩)) w1 ?_)))))))))
      refine gx_s (st_pst1 (s := s) rfl (by kernel_rfl) (by kernel_rfl) (fun _ => by kernel_rfl) hS1 0 rfl) ?_
      intro w2 hS2
      refine gx_nil (gx_thenN ⟨fun i => List.getD ((.bool true) :: (.pointer (some ⟨g, 0, none⟩)) :: (.int .u8 s) :: (.pointer (some ⟨g, 0, none⟩)) :: (.pointer (some ⟨g, 0, none⟩)) :: []) i undef, by kernel_rfl, by rw [ptS, if_pos hs]; exact hS2⟩)
    · refine gx_v (.bool false) w1 (run_boolE (ne_no hs) (by kernel_rfl)) (gx_nil (gx_thenN (hK6 _ _ (gx_no (by kernel_rfl) (gx_pass ?_)))))
      exact gx_thenN ⟨fun i => List.getD ((.bool false) :: undef :: undef :: undef :: undef :: []) i undef, by kernel_rfl, by rw [ptS, if_neg hs]; exact hS1⟩
  · rintro _ w ⟨u, rfl, hS2⟩
    refine gx_seq (fun K7 hK8 => gx_region (gx_k (.int .i32 r) w ?_))
    obtain ⟨⟨c, o, k⟩, hc2, hF⟩ := bind_in hF
    dsimp only at hF
    generalize ptS p s = p1 at hS2 hF
    have hP2 : St [g] w0 w ([] ++ [pstE g p1]) := hS2
    refine gx_c (ucBr_R (c, o, k) w) (ucBr_ok N r _ hc2 w (hcd.atL hP2)) ?_
    rintro _ w3 ⟨rfl, hT3⟩
    have hS3 : St [g] w0 w3 [pstE g p1] := by simpa using hP2.lendN _ hT3
    refine gx_k (.tuple #[.int .i32 c, .bool o, .bool k]) w3 (gx_k (.int .i32 c) w3 (gx_k (.bool o) w3 (gx_k (.bool k) w3 (gx_k (.int .i32 c) w3 (gx_k (.bool o) w3 (gx_k (.bool k) w3 (gx_nil (gx_thenN (hK8 _ _ (gx_block ?_))))))))))
    cases k with
    | false =>
      refine gx_seq (fun K9 hK10 => gx_region (gx_k (.bool false) w3 (gx_k (.bool true) w3 (gx_k (.bool true) w3 (gx_nil (gx_thenN (hK10 _ _ (gx_yes (by kernel_rfl) (gx_pass (gx_blkN ?_))))))))))
      rw [if_neg (by decide)] at hF
      obtain rfl := Option.some.inj hF
      exact gx_finN (.tuple #[]) (by kernel_rfl) (by kernel_rfl) ⟨_, rfl, rfl, hS3⟩
    | true =>
      rw [if_pos rfl] at hF
      refine gx_seq (fun K9 hK10 => gx_region (gx_k (.bool true) w3 (gx_k (.bool false) w3 (gx_k (.bool false) w3 (gx_nil (gx_thenN (hK10 _ _ (gx_no (by kernel_rfl) ?_))))))))
      cases o with
      | true =>
        rw [if_pos rfl] at hF
        refine gx_seq (fun K11 hK12 => gx_region (gx_k (.bool true) w3 (gx_k (.bool true) w3 (gx_nil (gx_thenN (hK12 _ _ (gx_yes (by kernel_rfl) ?_)))))))
        refine gd_start (fun w => ∃ p', St [g] w0 w [pstE g p'] ∧ p'.1 = p1.1) 9 #[false, false, false, false, false, false, false, false, false] (by kernel_rfl) (by kernel_rfl) ?_
        have hX0 := hS3.drew
        have hX : ∃ p', St [g] w0 w3.drew [pstE g p'] ∧ p'.1 = p1.1 := ⟨_, hX0, rfl⟩
        refine gv1 0 42 (.pointer (some ⟨g, 0, none⟩)) rfl hX (gv1 1 43 (.pointer (some ⟨g, 0, none⟩)) rfl hX (gv1 2 44 (.pointer (some ⟨g, 1, none⟩)) rfl hX (gv1 3 45 (.int .i32 c) rfl hX (gv1 4 46 (.pointer (some ⟨g, 0, none⟩)) rfl hX (gv1 5 47 (.pointer (some ⟨g, 0, none⟩)) rfl hX (gv1 6 48 (.pointer (some ⟨g, 0, none⟩)) rfl hX ?_))))))
        refine gu1 7 49 (.int .u8 p1.1) rfl hX (fun w ⟨p', hw, he⟩ => run_load1 rfl (by kernel_rfl) (fun _ => by kernel_rfl) (he ▸ hw.pst0 0 rfl)) ?_
        have hQ : St [g] w0 w3.drew ([pstE g p1] ++ []) := hX0
        refine gdC 8 _ (fun v w => v = .tuple #[] ∧ St (foots [pstE g p1]) w3.drew w [pstE g q]) rfl (by kernel_rfl) (kPut_ok g p1.1 p1.2 c p1.1 q hF _ hQ.part) ?_
        rintro _ w9 ⟨rfl, hT9⟩
        have hS9 : St [g] w0 w9 [pstE g q] := hQ.lendN _ hT9
        have hq : q.1 = p1.1 := by unfold kPut at hF; split at hF <;> (obtain rfl := Option.some.inj hF; rfl)
        exact ⟨⟨_, hS9, hq⟩, gd_done (by kernel_rfl) (gx_blkN (gx_finN (.tuple #[]) (by kernel_rfl) (by kernel_rfl) ⟨_, rfl, rfl, hS9⟩))⟩
      | false =>
        rw [if_neg (by decide)] at hF
        refine gx_seq (fun K11 hK12 => gx_region (gx_k (.bool false) w3 (gx_k (.bool false) w3 (gx_nil (gx_thenN (hK12 _ _ (gx_no (by kernel_rfl) ?_)))))))
        obtain ⟨⟨p2, a, b⟩, hc3, hF⟩ := bind_in hF
        dsimp only at hF
        have hQ : St [g] w0 w3 ([pstE g p1] ++ []) := hS3
        refine gx_seq (fun K13 hK14 => gx_region (gx_k (.pointer (some ⟨g, 0, none⟩)) w3 (gx_k (.pointer (some ⟨g, 0, none⟩)) w3 (gx_k (.pointer (some ⟨g, 1, none⟩)) w3 (gx_k (.int .i32 c) w3 ?_)))))
        refine gx_c (fun v w => v = .tuple #[.int .u8 a, .bool b] ∧ St (foots [pstE g p1]) w3 w [pstE g p2]) (kTake_ok g p1.1 p1.2 c (p2, a, b) hc3 _ hQ.part) ?_
        rintro _ w4 ⟨rfl, hT4⟩
        have hS4 : St [g] w0 w4 [pstE g p2] := hQ.lendN _ hT4
        refine gx_k (.tuple #[.int .u8 a, .bool b]) w4 (gx_k (.int .u8 a) w4 (gx_k (.bool b) w4 (gx_k (.int .u8 a) w4 (gx_k (.bool b) w4 (gx_nil (gx_thenN (hK14 _ _ ?_)))))))
        refine gx_seq (fun K15 hK16 => gx_region (gx_k (.bool b) w4 (gx_nil (gx_thenN (hK16 _ _ ?_)))))
        cases b with
        | true =>
          refine gx_yes (by kernel_rfl) (gx_region (gx_k (.pointer (some ⟨g, 0, none⟩)) w4 (gx_k (.int .u8 a) w4 (gx_k (.pointer (some ⟨g, 0, none⟩)) w4 (gx_k (.pointer (some ⟨g, 0, none⟩)) w4 ?_)))))
          refine gx_s (st_pst1 (s := a) rfl (by kernel_rfl) (by kernel_rfl) (fun _ => by kernel_rfl) hS4 0 rfl) ?_
          intro w5 hS5
          refine gx_nil (gx_blkN ?_)
          obtain rfl := Option.some.inj hF
          exact gx_finN (.tuple #[]) (by kernel_rfl) (by kernel_rfl) ⟨_, rfl, rfl, hS5⟩
        | false =>
          refine gx_no (by kernel_rfl) (gx_pass (gx_blkN ?_))
          obtain rfl := Option.some.inj hF
          exact gx_finN (.tuple #[]) (by kernel_rfl) (by kernel_rfl) ⟨_, rfl, rfl, hS4⟩
end Go.Proofs.YtkcmemldhbifdaaDoor

namespace Go.Proofs.YtkcmemldhbifdaaDoor
open Go Go.RowKit
set_option linter.unusedVariables false
set_option linter.unusedSimpArgs false
def zrL : List Value := (List.replicate 64 [Value.int .i32 0, Value.int .u8 0]).flatten
def pastL (s : Int) : List Value := .int .u8 s :: (zrL ++ [.int .i64 0])
theorem zrL_len : zrL.length = 128 := by kernel_rfl
theorem zrL_one : zrL.all (·.oneCell') = true := by kernel_rfl
section
variable {bs : List Nat} {w0 w : World} {es : List Ent} {g : Nat} {p : Int × List (Int × Int)} {P : Program} {o : Oper} {ρ : Operand → Value}
theorem pst_new {s : Int} (h : w.heap[g]? = some (.cells (pastL s).toArray 69 (0, 0))) : (pstE g (s, [])).holds w := ⟨Nat.zero_le _, zrL, zrL_len, h⟩
theorem st_past0 (h : St bs w0 w es) (hr : (execOp ρ o).run P w = .ok (.value (.pointer (some ⟨w.heap.size, 0, none⟩))) (w.alloc (.cells (pastL 0).toArray 69))) :
    ∃ v w', (execOp ρ o).run P w = .ok (.value v) w' ∧ (v = .pointer (some ⟨w.heap.size, 0, none⟩) ∧ St bs w0 w' (es ++ [pstE w.heap.size (0, [])])) := by
  refine ⟨_, _, hr, rfl, ?_⟩
  have h1 := h.boxed (pastL 0) 69
  have hg := h1.get es.length (e := boxE w.heap.size (pastL 0) 69) (by simp)
  have h2 := h1.same es.length (e := boxE w.heap.size (pastL 0) 69) (e' := pstE w.heap.size (0, [])) (by simp) (pst_new hg) rfl
  simpa using h2
theorem st_pastS {T : Nat} {x y : Operand} {s : Int} (ho : o.op = .store T x y) (hx : ρ x = .pointer (some ⟨g, 0, none⟩)) (hy : ρ y = .agg (pastL s).toArray) (hT : (P.info? T).map (·.size) = some 130) (h : St bs w0 w es) (i : Nat) (hi : es[i]? = some (pstE g p)) :
    ∃ w', (execOp ρ o).run P w = .ok .skip w' ∧ St bs w0 w' (es.set i (pstE g (s, []))) := by
  obtain ⟨h1, rest, h2, h3⟩ := h.get i hi
  have hi1 : i < es.length := (List.getElem?_eq_some_iff.1 hi).1
  have hb := h.same i hi (e' := boxE g (stkL p.1 p.2 rest) 69) h3 rfl
  have hl : (pastL s).length = 130 := by unfold pastL; rw [List.length_cons, List.length_append, zrL_len]; rfl
  obtain ⟨w', hr, hw⟩ := st_storeG (P := P) (o := o) (ρ := ρ) (TB := 69) (cs := stkL p.1 p.2 rest) (ds := pastL s) ho hx hy (by rw [hl]; exact hT) (by rw [hl]; unfold stkL; rw [List.length_cons, List.length_append, h2]; rfl)
    (by unfold pastL; rw [List.all_cons, List.all_append, zrL_one] <;> rfl) hb i (by rw [List.getElem?_set_self hi1])
  refine ⟨w', hr, ?_⟩
  rw [List.set_set] at hw
  have hg := hw.get (e := boxE g (pastL s) 69) i (by rw [List.getElem?_set_self hi1])
  have := hw.same (e := boxE g (pastL s) 69) i (by rw [List.getElem?_set_self hi1]) (e' := pstE g (s, [])) (pst_new hg) rfl
  rwa [List.set_set] at this
end
end Go.Proofs.YtkcmemldhbifdaaDoor
