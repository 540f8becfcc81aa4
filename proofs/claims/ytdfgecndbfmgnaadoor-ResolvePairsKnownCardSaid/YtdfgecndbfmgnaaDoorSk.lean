/-
  The brackets that wait.
-/
import Derived.Test.YtdfgecndbfmgnaaDoorBa
namespace Go.Proofs.YtdfgecndbfmgnaaDoor
open Go Go.RowKit
set_option linter.unusedVariables false
set_option linter.unusedSimpArgs false

/-- the brackets that wait, the last one first: what closes it, where it stands -/
def stkC (st : List (Int × Int)) : List Value := st.reverse.flatMap fun x => [.int .i64 x.2, .int .i32 x.1]
theorem stkC_len (st : List (Int × Int)) : (stkC st).length = 2 * st.length := by
  have : ∀ l : List (Int × Int), (l.flatMap fun x => [Value.int .i64 x.2, Value.int .i32 x.1]).length = 2 * l.length := by
    intro l
    induction l with
    | nil => rfl
    | cons x l ih => simp only [List.flatMap_cons, List.length_append, ih, List.length_cons, List.length_nil]; omega
  unfold stkC
  rw [this, List.length_reverse]
abbrev stkL (st : List (Int × Int)) (rest : List Value) : List Value := stkC st ++ rest ++ [.int .i64 (st.length : Nat)]
def stkE (g : Nat) (st : List (Int × Int)) : Ent where
  foot := [g]
  holds w := st.length ≤ 63 ∧ ∃ rest : List Value, (stkC st ++ rest).length = 126 ∧ w.heap[g]? = some (.cells (stkL st rest).toArray 62 (0, 0))
  loc w w' hk h := ⟨h.1, by obtain ⟨r, h2, h3⟩ := h.2; exact ⟨r, h2, by rw [hk g (by simp)]; exact h3⟩⟩

section
variable {bs : List Nat} {w0 w : World} {es : List Ent} {g : Nat} {st : List (Int × Int)}
theorem St.same {e e' : Ent} (h : St bs w0 w es) (i : Nat) (hi : es[i]? = some e) (he : e'.holds w) (hf : e'.foot = e.foot) : St bs w0 w (es.set i e') :=
  h.turn i hi ⟨rfl, rfl, rfl⟩ (Nat.le_refl _) (fun _ _ _ => rfl) e' he (fun k hk => .inl (hf ▸ hk))
theorem stk_open (h : St bs w0 w [stkE g st]) : st.length ≤ 63 ∧ ∃ rest : List Value, (stkC st ++ rest).length = 126 ∧ St bs w0 w [boxE g (stkL st rest) 62] := by
  obtain ⟨h1, rest, h2, h3⟩ := h.get 0 rfl
  exact ⟨h1, rest, h2, h.same 0 rfl (e' := boxE g (stkL st rest) 62) h3 rfl⟩
theorem stk_shut {rest : List Value} (h1 : st.length ≤ 63) (h2 : (stkC st ++ rest).length = 126) (h : St bs w0 w [boxE g (stkL st rest) 62]) : St bs w0 w [stkE g st] :=
  h.same 0 rfl (e' := stkE g st) ⟨h1, rest, h2, h.get 0 rfl⟩ rfl
theorem stk_n {rest : List Value} (h2 : (stkC st ++ rest).length = 126) : (stkL st rest)[126]? = some (.int .i64 (st.length : Nat)) := by
  unfold stkL
  rw [List.getElem?_append_right (by omega), h2]; rfl
end

def kPut (st : List (Int × Int)) (a c : Int) : Option (List (Int × Int) × Bool) := if ((st.length : Nat) : Int) = 63 then some (st, false) else some ((c, a) :: st, true)

/-- the place of an element of an array of structs -/
theorem run_ixarrN {P : Program} {w : World} {ρ : Operand → Value} {o : Oper} {T E s m g i : Nat} {x y : Operand} {k : IntKind} {z : Int} (ho : o.op = .indexAddr T x y) (hx : ρ x = .pointer (some ⟨g, 0, none⟩)) (hy : ρ y = .int k z) (hz : z = (i : Int)) (hT : P.underlying T = some (.array m E)) (hs : ∀ w, (Go.sizeOf E).run P w = .ok s w) (hi : i < m) :
    (execOp ρ o).run P w = .ok (.value (.pointer (some ⟨g, i * s, none⟩))) w := by
  subst hz
  unfold execOp
  rw [ho]
  simp only [hx, hy, Instr.indexAt, asIntOf, Sem.run_bind, Sem.run_pure, Result.andThen_ok, run_underlying hT, Instr.sureAddr]
  rw [if_pos ⟨by omega, by omega⟩]
  simp [hs, Result.andThen, add_flat]

theorem stk_push {st : List (Int × Int)} {rest : List Value} {a c : Int} (h2 : (stkC st ++ rest).length = 126) (h : st.length < 63) :
    ∃ rest', (stkC ((c, a) :: st) ++ rest').length = 126 ∧ (stkL st rest).take (st.length * 2) ++ ([.int .i64 a, .int .i32 c] ++ (stkL st rest).drop (st.length * 2 + 2)) = stkC ((c, a) :: st) ++ rest' ++ [.int .i64 (st.length : Nat)] := by
  have hc := stkC_len st
  have hr : rest.length = 126 - 2 * st.length := by rw [List.length_append] at h2; omega
  have e : stkC ((c, a) :: st) = stkC st ++ [.int .i64 a, .int .i32 c] := by simp [stkC]
  refine ⟨rest.drop 2, ?_, ?_⟩
  · rw [e]; simp only [List.length_append, List.length_drop, List.length_cons, List.length_nil]; omega
  · rw [e]
    unfold stkL
    rw [List.append_assoc (stkC st), List.take_append_of_le_length (by omega), List.take_of_length_le (by omega), List.drop_append, List.drop_eq_nil_of_le (by omega), List.drop_append_of_le_length (by omega)]
    rw [show st.length * 2 + 2 - (stkC st).length = 2 by omega]
    simp

theorem kPut_ok (g : Nat) (st : List (Int × Int)) (a c : Int) (r : List (Int × Int) × Bool) (hF : kPut st a c = some r) (w0 : World) (hE : St [g] w0 w0 [stkE g st]) :
    Calls Tryd.prog 26 #[.pointer (some ⟨g, 0, none⟩), .int .i64 a, .int .i32 c] w0 fun e w => ∃ v, e = .returned v ∧ v = .bool r.2 ∧ St [g] w0 w [stkE g r.1] := by
  obtain ⟨h63, rest, hlen, hS0⟩ := stk_open hE
  have hn := stk_n (st := st) hlen
  refine calls_of Tryd.func26 rfl ⟨((.pointer (some ⟨g, 0, none⟩)) :: (.int .i64 a) :: (.int .i32 c) :: un 27 []).toArray, []⟩ (by kernel_rfl) (gx_seq (fun K1 hK2 => gx_region (gx_k (.bool false) w0 (gx_nil (gx_thenN (hK2 _ _ ?_))))))
  refine gx_seq (fun K3 hK4 => gx_seq (fun K5 hK6 => gx_region (gx_k (.pointer (some ⟨g, 0, none⟩)) w0 (gx_k (.pointer (some ⟨g, 0, none⟩)) w0 (gx_k (.pointer (some ⟨g, 126, none⟩)) w0
    (gx_v (.int .i64 (st.length : Nat)) w0 (run_load1 rfl (by kernel_rfl) (fun _ => by kernel_rfl) (hS0.box 0 rfl 126 hn)) ?_))))))
  rcases if_in hF with ⟨h7, hF⟩ | ⟨h7, hF⟩
  · refine gx_v (.bool true) w0 (run_boolE (decide_eq_true h7) (by kernel_rfl)) (gx_nil (gx_thenN (hK6 _ _ (gx_yes (by kernel_rfl) (gx_seq (fun K8 hK9 => gx_region (gx_k (.bool false) w0 (gx_nil (gx_thenN (hK9 _ _ ?_))))))))))
    refine gx_ret (gx_thenR ?_)
    obtain rfl := Option.some.inj hF
    exact gx_fin (.bool false) (by kernel_rfl) (by kernel_rfl) ⟨_, rfl, rfl, hE⟩
  · refine gx_v (.bool false) w0 (run_boolE (decide_eq_false h7) (by kernel_rfl)) (gx_nil (gx_thenN (hK6 _ _ (gx_no (by kernel_rfl) (gx_pass (gx_thenN (hK4 _ _ ?_)))))))
    have hlt : st.length < 63 := by omega
    obtain ⟨rest', hl', he'⟩ := stk_push (a := a) (c := c) hlen hlt
    refine gx_seq (fun K8 hK9 => gd_start (fun w => ∃ cs : List Value, St [g] w0 w [boxE g cs 62] ∧ cs[126]? = some (.int .i64 (st.length : Nat))) 12 #[false, false, false, false, false, false, false, false, false, false, false, false] (by kernel_rfl) (by kernel_rfl) ?_)
    have hS1 := hS0.drew
    have hX : ∃ cs : List Value, St [g] w0 w0.drew [boxE g cs 62] ∧ cs[126]? = some (.int .i64 (st.length : Nat)) := ⟨_, hS1, hn⟩
    refine gv1 0 12 (.pointer (some ⟨g, 0, none⟩)) rfl hX (gv1 1 13 (.pointer (some ⟨g, 0, none⟩)) rfl hX (gv1 2 14 (.pointer (some ⟨g, 0, none⟩)) rfl hX (gv1 3 15 (.pointer (some ⟨g, 126, none⟩)) rfl hX ?_)))
    refine gu1 4 16 (.int .i64 (st.length : Nat)) rfl hX (fun w ⟨cs, hw, hc⟩ => run_load1 rfl (by kernel_rfl) (fun _ => by kernel_rfl) (hw.box 0 rfl 126 hc)) ?_
    refine gv1 5 17 (.int .i64 a) rfl hX (gv1 6 18 (.int .i32 c) rfl hX (gv1 7 19 (.agg #[.int .i64 a, .int .i32 c]) rfl hX (gv1 8 20 (.pointer (some ⟨g, 0, none⟩)) rfl hX (gv1 9 21 (.pointer (some ⟨g, 0, none⟩)) rfl hX ?_))))
    refine gu1 10 22 (.pointer (some ⟨g, st.length * 2, none⟩)) rfl hX (fun w hw => run_ixarrN (E := 59) (s := 2) (m := 63) (k := .i64) rfl (by kernel_rfl) (by kernel_rfl) rfl (by kernel_rfl) (fun _ => by kernel_rfl) hlt) ?_
    refine gdS 11 ⟨none, _, _, _, _, _⟩ rfl (st_storeGP (cs := stkL st rest) (ds := [.int .i64 a, .int .i32 c]) (st.length * 2) rfl (by kernel_rfl) (by kernel_rfl) (by kernel_rfl) rfl hS1 0 rfl (by have := hlen; simp only [stkL, List.length_append, List.length_cons, List.length_nil] at this ⊢; omega) he') ?_
    intro w2 hS2
    have hn2 : (stkC ((c, a) :: st) ++ rest' ++ [Value.int .i64 (st.length : Nat)])[126]? = some (.int .i64 (st.length : Nat)) := by rw [List.getElem?_append_right (by omega), hl']; rfl
    refine ⟨⟨_, hS2, hn2⟩, ?_⟩
    refine gd_done (by kernel_rfl) (gx_thenN (hK9 _ _ ?_))
    refine gx_seq (fun K10 hK11 => gx_region (gx_k (.pointer (some ⟨g, 0, none⟩)) w2 (gx_k (.pointer (some ⟨g, 0, none⟩)) w2 (gx_k (.pointer (some ⟨g, 126, none⟩)) w2
      (gx_v (.int .i64 (st.length : Nat)) w2 (run_load1 rfl (by kernel_rfl) (fun _ => by kernel_rfl) (hS2.box 0 rfl 126 hn2)) (gx_k (.int .i64 (IntKind.i64.wrap ((st.length : Nat) + 1))) w2 (gx_k (.pointer (some ⟨g, 0, none⟩)) w2 (gx_k (.pointer (some ⟨g, 126, none⟩)) w2 ?_))))))))
    refine gx_s (st_store (j := 126) (v := .int .i64 (IntKind.i64.wrap ((st.length : Nat) + 1))) rfl (by kernel_rfl) (by kernel_rfl) rfl (fun _ => by kernel_rfl) hS2 0 rfl (by rw [List.length_append, hl']; exact Nat.lt_succ_self 126)) ?_
    intro w3 hS3
    refine gx_nil (gx_thenN (hK11 _ _ (gx_seq (fun K12 hK13 => gx_region (gx_k (.bool true) w3 (gx_nil (gx_thenN (hK13 _ _ ?_))))))))
    refine gx_ret ?_
    obtain rfl := Option.some.inj hF
    have hw : IntKind.i64.wrap (((st.length : Nat) : Int) + 1) = ((st.length + 1 : Nat) : Int) := by rw [IntKind.wrap_i64]; omega
    have hset : (stkC ((c, a) :: st) ++ rest' ++ [Value.int .i64 (st.length : Nat)]).set 126 (.int .i64 (IntKind.i64.wrap (((st.length : Nat) : Int) + 1))) = stkL ((c, a) :: st) rest' := by
      rw [List.set_append_right _ _ (by omega), hl', hw]; rfl
    have hS4 : St [g] w0 w3 [boxE g (stkL ((c, a) :: st) rest') 62] := by rw [← hset]; exact hS3
    exact gx_fin (.bool true) (by kernel_rfl) (by kernel_rfl) ⟨_, rfl, rfl, stk_shut (by show st.length + 1 ≤ 63; omega) hl' hS4⟩
end Go.Proofs.YtdfgecndbfmgnaaDoor
