/-
  Several texts in one: Gp, JoinT.
-/
import Derived.Test.YtijmponhkabeiaaGn
import Derived.Test.YtijmponhkabeiaaM6
import Derived.Test.YtijmponhkabeiaaM8
namespace Go.Proofs.Ytijmponhkabeiaa
open Go Go.RowKit
set_option linter.unusedVariables false

/-- how a call ends that may give up -/
inductive Pan (R G : Type) where
  | ok (r : R)
  | gone (g : G)

/-- what it is given up with -/
def goneB (T : Nat) (n : Int) : List PanicEntry := [{ v := .iface T (.agg #[.int .i64 n]), recovered := false }]

section
variable {P : Program} {ro : Option Nat} {n : Nat} {ops : Array Oper} {Q : Exit → Act → World → Prop} {rest : List Oper} {o : Oper} {a : Act} {w : World}

theorem gx_callX {f : Nat} {args : Array Value} (X : List PanicEntry → World → Prop) (hg : gok o ops a = true) (hr : (execOp a.eval o).run P w = .ok (.enter f args) w)
    (hc : Calls P f args w fun e w' => ∃ c, e = .panicked c ∧ X c w')
    (h : ∀ c w', X c w' → WQ Q (.panic c) a w') : WL ro n P ops Q (o :: rest) a w := by
  unfold gok at hg
  rw [Bool.and_eq_true] at hg
  constructor
  unfold wpListIn
  rw [if_pos hg.1]
  refine ⟨fun _ _ => trivial, ?_⟩
  rw [semAt_fw hg.2, hr]
  refine ⟨fun hd => (by cases hd), calls_in (hc.mono ?_)⟩
  rintro e w' ⟨c, rfl, hX⟩
  exact (h c w' hX).out

theorem gx_panic {x : Operand} {v : Value} (hg : gok o ops a = true) (ho : o.op = .panic x) (hv : (Instr.panic (a.eval x)).run P w = .halt (.panic v) w)
    (h : WQ Q (.panic [{ v := v, recovered := false }]) a w) : WL ro n P ops Q (o :: rest) a w := by
  unfold gok at hg
  rw [Bool.and_eq_true] at hg
  constructor
  unfold wpListIn
  rw [if_pos hg.1]
  refine ⟨fun _ _ => trivial, ?_⟩
  have hr : (execOp a.eval o).run P w = .halt (.panic v) w := by
    unfold execOp
    rw [ho]
    simp only [Sem.run_bind, hv]
    rfl
  rw [semAt_fw hg.2, hr]
  exact h.out

theorem gx_thenP {K : Act → World → Prop} {c : List PanicEntry} (h : WQ Q (.panic c) a w) : WQ (Exit.then K Q) (.panic c) a w := ⟨h.out⟩
theorem gx_blkP {id : Nat} {c : List PanicEntry} (h : WQ Q (.panic c) a w) : WQ (Exit.inBlock id Q) (.panic c) a w := ⟨h.out⟩
theorem gx_jmpP {l : Nat} {J : Act → World → Prop} {c : List PanicEntry} (h : WQ Q (.panic c) a w) : WQ (Exit.jump l J Q) (.panic c) a w := ⟨h.out⟩
theorem gx_finP {fn : Func} {R : Ending → World → Prop} {c : List PanicEntry} (hd : a.defers = []) (h : R (.panicked c) w) : WQ (bodyPost P fn R) (.panic c) a w := ⟨hd, h⟩

section
variable {S : World → Prop} {fuel : Nat} {listed : Array Bool}
theorem gdCX (i : Nat) (oi : Oper) {f : Nat} {args : Array Value} (X : List PanicEntry → World → Prop) (hi : ops[i]? = some oi) (hx : (execOp a.eval oi).run P w = .ok (.enter f args) w)
    (hcall : Calls P f args w fun e w' => ∃ c, e = .panicked c ∧ X c w')
    (h : ∀ c w', X c w' → WQ Q (.panic c) a w')
    (hc : (plainOp oi && (decide (Region.ready .any ops listed = [i]) && Region.wanted oi (yielded ops a.tmps))) = true := by as_aux_lemma => kernel_rfl) :
    WD ro n P ops Q S (fuel + 1) listed a w := by
  refine gd_one i oi hi hc ?_
  rw [hx]
  refine ⟨fun hd => (by cases hd), calls_in (hcall.mono ?_)⟩
  rintro e w' ⟨c, rfl, hX⟩
  exact (h c w' hX).out
end
end

/-! ### what is lent -/
def foots (es : List Ent) : List Nat := (es.map Ent.foot).flatten

section
variable {bs : List Nat} {w0 w w' : World} {A B es : List Ent}

theorem mem_foots {k : Nat} {es : List Ent} : k ∈ foots es ↔ ∃ e ∈ es, k ∈ e.foot := by
  simp only [foots, List.mem_flatten, List.mem_map]
  constructor
  · rintro ⟨l, ⟨e, he, rfl⟩, hk⟩; exact ⟨e, he, hk⟩
  · rintro ⟨e, he, hk⟩; exact ⟨_, ⟨e, he, rfl⟩, hk⟩

theorem St.part (h : St bs w0 w (A ++ B)) : St (foots A) w w A := by
  refine ⟨But.refl _ _ _, fun e he => ?_, (List.pairwise_append.1 h.apart).1⟩
  obtain ⟨h1, h2⟩ := h.holds e (by simp [he])
  exact ⟨h1, fun k hk => ⟨.inr (mem_foots.2 ⟨e, he, hk⟩), (h2 k hk).2⟩⟩

/-- a call to which the entries A were lent -/
theorem St.lendN (h : St bs w0 w (A ++ B)) (es' : List Ent) (h' : St (foots A) w w' es') : St bs w0 w' (B ++ es') := by
  have hp := List.pairwise_append.1 h.apart
  have fA : ∀ k ∈ foots A, (w0.heap.size ≤ k ∨ k ∈ bs) ∧ k < w.heap.size := fun k hk => by
    obtain ⟨e, he, hk⟩ := mem_foots.1 hk
    exact (h.holds e (by simp [he])).2 k hk
  have apart : ∀ e ∈ B, ∀ k ∈ e.foot, k ∉ foots A := fun e he k hk hk2 => by
    obtain ⟨a, ha, hka⟩ := mem_foots.1 hk2
    exact hp.2.2 a ha e he k hka hk
  refine ⟨h.but.trans (h'.but.mono h.size (fun k hk hm => ?_)), fun x hx => ?_, List.pairwise_append.2 ⟨hp.2.1, h'.apart, fun a ha b hb k hk hk2 => ?_⟩⟩
  · rcases (fA k hm).1 with h1 | h1
    · omega
    · exact h1
  · rcases List.mem_append.1 hx with hxa | hxb
    · obtain ⟨h1, h2⟩ := h.holds x (by simp [hxa])
      exact ⟨x.loc w w' (fun k hk => h'.but.block k (h2 k hk).2 (apart x hxa k hk)) h1, fun k hk => ⟨(h2 k hk).1, Nat.lt_of_lt_of_le (h2 k hk).2 h'.size⟩⟩
    · obtain ⟨h1, h2⟩ := h'.holds x hxb
      refine ⟨h1, fun k hk => ⟨?_, (h2 k hk).2⟩⟩
      rcases (h2 k hk).1 with h3 | h3
      · exact .inl (Nat.le_trans h.size h3)
      · exact (fA k h3).1
  · have h1 := ((h.holds a (by simp [ha])).2 k hk).2
    rcases ((h'.holds b hb).2 k hk2).1 with h3 | h3
    · omega
    · exact apart a ha k hk h3

/-- entries that came in -/
theorem St.lentN {w : World} {es : List Ent} (hh : ∀ e ∈ es, e.holds w ∧ ∀ k ∈ e.foot, k < w.heap.size) (hp : es.Pairwise (fun a b => ∀ k ∈ a.foot, k ∉ b.foot)) : St (foots es) w w es :=
  ⟨But.refl _ _ _, fun e he => ⟨(hh e he).1, fun k hk => ⟨.inr (mem_foots.2 ⟨e, he, hk⟩), (hh e he).2 k hk⟩⟩, hp⟩

theorem St.outA (h : St bs w0 w (A ++ B)) {k : Nat} (h1 : k < w0.heap.size) (h2 : k ∉ bs) : k ∉ foots A := fun hm => by
  obtain ⟨e, he, hk⟩ := mem_foots.1 hm
  rcases ((h.holds e (by simp [he])).2 k hk).1 with h3 | h3
  · omega
  · exact h2 h3

theorem St.outB (h : St bs w0 w (A ++ B)) {e : Ent} {i k : Nat} (hi : B[i]? = some e) (hk : k ∈ e.foot) : k ∉ foots A := fun hm => by
  obtain ⟨a, ha, hka⟩ := mem_foots.1 hm
  exact (List.pairwise_append.1 h.apart).2.2 a ha e (List.mem_of_getElem? hi) k hka hk

/-- what came in, lent on -/
theorem St.vwA (h : St bs w0 w (A ++ B)) {k : IntKind} {X : Option Addr} {c : Nat} {l : List Int} (hv : Vw bs k w0 X c l) : Vw (foots A) k w X c l := by
  refine ⟨h.view hv, hv.nn, fun p hp hne => ?_⟩
  obtain ⟨g, off, e, hg, _⟩ := hv.num.cells hne
  rw [hp] at e
  injection e with e
  subst e
  exact h.outA hg (hv.off _ hp hne)

theorem St.vwB (h : St bs w0 w (A ++ B)) {k : IntKind} {T : Nat} {X : Option Addr} {c : Nat} {l : List Int} (i : Nat) (hi : B[i]? = some (rowE k T X c l)) : Vw (foots A) k w X c l := by
  have hB : (rowE k T X c l).holds w := (h.holds _ (List.mem_append_right _ (List.mem_of_getElem? hi))).1
  refine ⟨(rowE_read hB).1, (rowE_read hB).2, fun p hp _ => ?_⟩
  subst hp
  exact h.outB hi (by simp [rowE, rowG, Value.ownBlock])

theorem St.vwF {k : IntKind} {X : Option Addr} {c : Nat} {l : List Int} {vs : List Value} {ft : List Nat} (ho : Off (foots A) w ft) (hf : (fSl (intE k) X c vs l).rd w ft) : Vw (foots A) k w X c l := by
  obtain ⟨h1, h2, h3⟩ := fSl_num hf
  exact ⟨h1, h2, fun p hp hne => (ho _ (h3 p hp hne)).2⟩

theorem St.offPA {W : World} {ft : List Nat} (h : St bs w0 w (A ++ B)) (i : Nat) (hi : B[i]? = some (poolE ft W)) : Off (foots A) w ft := fun k hk =>
  ⟨((h.holds _ (List.mem_append_right _ (List.mem_of_getElem? hi))).2 k hk).2, h.outB hi hk⟩

theorem St.offMA {W : World} {ft inn : List Nat} (h : St bs w0 w (A ++ B)) (i : Nat) (hi : B[i]? = some (poolE ft W)) (hI : Inn bs w0 inn W) : Off (foots A) w (ft ++ inn) := fun k hk => by
  rcases List.mem_append.1 hk with hk | hk
  · exact h.offPA i hi k hk
  · exact ⟨Nat.lt_of_lt_of_le (hI k hk).1 h.size, h.outA (hI k hk).1 (hI k hk).2.1⟩

theorem St.offIA {ft : List Nat} (h : St bs w0 w (A ++ B)) (ho : Off bs w0 ft) : Off (foots A) w ft := fun k hk => ⟨Nat.lt_of_lt_of_le (ho k hk).1 h.size, h.outA (ho k hk).1 (ho k hk).2⟩

theorem St.offRA {e : Ent} {ft : List Nat} (h : St bs w0 w (A ++ B)) (i : Nat) (hi : B[i]? = some e) (ho : Off (foots A) w ft) : Off (foots A) w (e.foot ++ ft) := fun k hk => by
  rcases List.mem_append.1 hk with hk | hk
  · exact ⟨((h.holds _ (List.mem_append_right _ (List.mem_of_getElem? hi))).2 k hk).2, h.outB hi hk⟩
  · exact ho k hk

end

/-- a struct that lies in a box, and what stands beside it, are told -/
theorem res_ct {P : Program} {fn : Func} {p q : Tmp} {ty : TypeId} (h : fn.results = #[.cell p ty, .tmp q]) (tmps : Array Value) (w : World) (g : Nat) (t : TypeId) (cs : Array Value) (fr : Nat × Nat)
    (hp : tmps.getD p undef = .pointer (some ⟨g, 0, none⟩)) (hg : w.heap[g]? = some (.cells cs t fr)) (hu : aggD P ty = true) (hi : (P.info? ty).map (·.size) = some cs.size) (v : Value) (hq : tmps.getD q undef = v) : (results fn tmps).run P w = .ok (.tuple #[.agg cs, v]) w := by
  have hp' : tmps[p]?.getD undef = .pointer (some ⟨g, 0, none⟩) := by simpa using hp
  have hq' : tmps[q]?.getD undef = v := by simpa using hq
  unfold aggD at hu
  cases hd : P.underlying ty with
  | none => rw [hd] at hu; cases hu
  | some d => simp [results, h, hp', hq', asAddr, run_loadVar_row w g t ty cs fr d hg hd (by rw [hd] at hu; cases d <;> simp_all) hi]

theorem pan_ok {P : Program} {f : Nat} {args : Array Value} {w0 : World} {T G : Type} {r : T} {R : T → Value → World → Prop} {X : G → List PanicEntry → World → Prop}
    (h : Calls P f args w0 fun e w => (∃ r', (Pan.ok r : Pan T G) = .ok r' ∧ ∃ v, e = .returned v ∧ R r' v w) ∨ (∃ g, (Pan.ok r : Pan T G) = .gone g ∧ ∃ c, e = .panicked c ∧ X g c w)) : Calls P f args w0 fun e w => ∃ v, e = .returned v ∧ R r v w :=
  h.mono (by
    rintro e w (⟨r', h1, h2⟩ | ⟨g, h1, _⟩)
    · injection h1 with h1; subst h1; exact h2
    · cases h1)

theorem pan_gone {P : Program} {f : Nat} {args : Array Value} {w0 : World} {T G : Type} {g : G} {R : T → Value → World → Prop} {X : G → List PanicEntry → World → Prop}
    (h : Calls P f args w0 fun e w => (∃ r', (Pan.gone g : Pan T G) = .ok r' ∧ ∃ v, e = .returned v ∧ R r' v w) ∨ (∃ g', (Pan.gone g : Pan T G) = .gone g' ∧ ∃ c, e = .panicked c ∧ X g' c w)) : Calls P f args w0 fun e w => ∃ c, e = .panicked c ∧ X g c w :=
  h.mono (by
    rintro e w (⟨r', h1, _⟩ | ⟨g', h1, h2⟩)
    · cases h1
    · injection h1 with h1; subst h1; exact h2)
end Go.Proofs.Ytijmponhkabeiaa

namespace Go.Proofs.Ytijmponhkabeiaa
open Go Go.RowKit

theorem getD_right (A B : List Int) (k : Nat) : (A ++ B).getD (A.length + k) 0 = B.getD k 0 := by
  rw [List.getD_eq_getElem?_getD, List.getElem?_append_right (by omega), Nat.add_sub_cancel_left, ← List.getD_eq_getElem?_getD]

theorem getD_left (A B : List Int) (k : Nat) (h : k < A.length) : (A ++ B).getD k 0 = A.getD k 0 := by
  rw [List.getD_eq_getElem?_getD, List.getElem?_append_left h, ← List.getD_eq_getElem?_getD]

theorem ext_getD {a b : List Int} (h : a.length = b.length) (hx : ∀ j, j < a.length → a.getD j 0 = b.getD j 0) : a = b := by
  apply List.ext_getElem h
  intro j h1 h2
  have := hx j h1
  rw [List.getD_eq_getElem?_getD, List.getD_eq_getElem?_getD, List.getElem?_eq_getElem h1, List.getElem?_eq_getElem h2] at this
  exact this

theorem slice_len (l : List Int) (p m : Nat) (h : p + m ≤ l.length) : ((l.drop p).take m).length = m := by
  rw [List.length_take, List.length_drop]; omega

theorem slice_getD (l : List Int) (p m j : Nat) (hj : j < m) : ((l.drop p).take m).getD j 0 = l.getD (p + j) 0 := by
  rw [List.getD_eq_getElem?_getD, List.getElem?_take_of_lt hj, List.getElem?_drop, ← List.getD_eq_getElem?_getD]

/-- four bytes put at a place -/
theorem four_eq (l : List Int) (p : Nat) (a : List Int) (ha : a.length = 4) : setFour l p a = l.take p ++ (a ++ l.drop (p + 4)) := by
  unfold setFour
  rw [List.take_of_length_le (Nat.le_of_eq ha), List.append_assoc]

theorem four_len (l : List Int) (p : Nat) (a : List Int) (hp : p + 4 ≤ l.length) (ha : a.length = 4) : (setFour l p a).length = l.length := by
  rw [four_eq l p a ha]
  simp only [List.length_append, List.length_take, List.length_drop, ha]
  omega

theorem four_get (l : List Int) (p : Nat) (a : List Int) (hp : p + 4 ≤ l.length) (ha : a.length = 4) (j : Nat) : (setFour l p a).getD j 0 = if p ≤ j ∧ j < p + 4 then a.getD (j - p) 0 else l.getD j 0 := by
  rw [four_eq l p a ha]
  have hl : (l.take p).length = p := by rw [List.length_take]; omega
  by_cases h1 : p ≤ j
  · obtain ⟨k, rfl⟩ : ∃ k, j = p + k := ⟨j - p, by omega⟩
    have e := getD_right (l.take p) (a ++ l.drop (p + 4)) k
    rw [hl] at e
    rw [e]
    by_cases h2 : k < 4
    · rw [if_pos ⟨by omega, by omega⟩, getD_left _ _ _ (by omega), Nat.add_sub_cancel_left]
    · rw [if_neg (by omega)]
      obtain ⟨m, rfl⟩ : ∃ m, k = 4 + m := ⟨k - 4, by omega⟩
      have e := getD_right a (l.drop (p + 4)) m
      rw [ha] at e
      rw [e, List.getD_eq_getElem?_getD, List.getElem?_drop, ← List.getD_eq_getElem?_getD, Nat.add_assoc]
  · rw [if_neg (by omega), getD_left _ _ _ (by omega), List.getD_eq_getElem?_getD, List.getElem?_take_of_lt (by omega), ← List.getD_eq_getElem?_getD]

theorem low4 (x : Int) : lowB 4 x = [x / 16777216 % 256, x / 65536 % 256, x / 256 % 256, x / 1 % 256] := rfl
theorem low2 (x : Int) : lowB 2 x = [x / 256 % 256, x / 1 % 256] := rfl

theorem num4 (l : List Int) (p : Nat) (x : Int) (hx : 0 ≤ x ∧ x ≤ 4294967295) (h : ∀ j, j < 4 → l.getD (p + j) 0 = (lowB 4 x).getD j 0) : numF l p 4 = x := by
  have h0 := h 0 (by omega)
  have h1 := h 1 (by omega)
  have h2 := h 2 (by omega)
  have h3 := h 3 (by omega)
  simp only [numF]
  rw [h0, h1, h2, h3, low4]
  show (((0 * 256 + x / 16777216 % 256) * 256 + x / 65536 % 256) * 256 + x / 256 % 256) * 256 + x / 1 % 256 = x
  omega

theorem num2 (l : List Int) (p : Nat) (x : Int) (hx : 0 ≤ x ∧ x ≤ 65535) (h : ∀ j, j < 2 → l.getD (p + j) 0 = (lowB 2 x).getD j 0) : numF l p 2 = x := by
  have h0 := h 0 (by omega)
  have h1 := h 1 (by omega)
  simp only [numF]
  rw [h0, h1, low2]
  show (0 * 256 + x / 256 % 256) * 256 + x / 1 % 256 = x
  omega

theorem put3_eq (a b c : Int) (ha : 0 ≤ a ∧ a ≤ 4294967295) (hb : 0 ≤ b ∧ b ≤ 4294967295) (hc : 0 ≤ c ∧ c ≤ 4294967295) : (putA [a, b, c] ⟨#[73, 73, 73]⟩).2 = lowB 4 a ++ (lowB 4 b ++ lowB 4 c) := by
  have hp : plan ⟨#[73, 73, 73]⟩ = [73, 73, 73] := rfl
  have hs : (⟨#[73, 73, 73]⟩ : ByteArray).size = 3 := rfl
  unfold putA
  rw [hs, hp]
  simp [putR, fitsC, sizeC, ha, hb, hc]

theorem put1_eq (a : Int) (ha : 0 ≤ a ∧ a ≤ 4294967295) : (putA [a] ⟨#[73]⟩).2 = lowB 4 a := by
  have hp : plan ⟨#[73]⟩ = [73] := rfl
  have hs : (⟨#[73]⟩ : ByteArray).size = 1 := rfl
  unfold putA
  rw [hs, hp]
  simp [putR, fitsC, sizeC, ha]

theorem headL_eq (n : Nat) (h1 : 1 ≤ n) (h2 : n ≤ 64) : ∃ R, headL n = lowB 4 65536 ++ (lowB 2 (n : Int) ++ R) := by
  have hpn : 2 ^ Nat.log2 n ≤ n := (Nat.le_log2 (by omega)).1 (Nat.le_refl _)
  have he6 : Nat.log2 n < 7 := (Nat.log2_lt (by omega)).2 (by omega)
  have hp : plan ⟨#[73, 72, 72, 72, 72]⟩ = [73, 72, 72, 72, 72] := rfl
  have hs : (⟨#[73, 72, 72, 72, 72]⟩ : ByteArray).size = 5 := rfl
  unfold headL putA
  rw [hs, hp]
  generalize 2 ^ Nat.log2 n = p at hpn ⊢
  have e1 : ((n : Nat) : Int) ≤ 65535 := by omega
  have e2 : ((16 * p : Nat) : Int) ≤ 65535 := by omega
  have e3 : ((Nat.log2 n : Nat) : Int) ≤ 65535 := by omega
  have e4 : ((16 * n - 16 * p : Nat) : Int) ≤ 65535 := by omega
  have f1 : (0 : Int) ≤ ((n : Nat) : Int) := Int.natCast_nonneg _
  have f2 : (0 : Int) ≤ ((16 * p : Nat) : Int) := Int.natCast_nonneg _
  have f3 : (0 : Int) ≤ ((Nat.log2 n : Nat) : Int) := Int.natCast_nonneg _
  have f4 : (0 : Int) ≤ ((16 * n - 16 * p : Nat) : Int) := Int.natCast_nonneg _
  generalize ((16 * p : Nat) : Int) = x2 at e2 f2 ⊢
  generalize ((16 * n - 16 * p : Nat) : Int) = x4 at e4 f4 ⊢
  generalize ((Nat.log2 n : Nat) : Int) = x3 at e3 f3 ⊢
  generalize ((n : Nat) : Int) = x1 at e1 f1 ⊢
  refine ⟨lowB 2 x2 ++ (lowB 2 x3 ++ lowB 2 x4), ?_⟩
  simp [putR, fitsC, sizeC, e1, e2, e3, e4, f1, f2, f3, f4]

/-- what the joining is of: names and bodies -/
structure JoinOf (ts bs : List (List Int)) : Prop where
  len : ts.length = bs.length
  one : 1 ≤ ts.length
  most : ts.length ≤ 64
  four : ∀ t ∈ ts, t.length = 4
  tb : ∀ t ∈ ts, AllB t
  bb : ∀ b ∈ bs, AllB b
  order : inOrder ts ts.length = true
  size : sizeJ bs bs.length ≤ 1000000

theorem getD_mem' {ts : List (List Int)} {i : Nat} (h : i < ts.length) : ts.getD i [] ∈ ts := by
  rw [List.getD_eq_getElem?_getD, List.getElem?_eq_getElem h]
  exact List.getElem_mem _

theorem sizeJ_mono (bs : List (List Int)) {i k : Nat} (h : i ≤ k) : sizeJ bs i ≤ sizeJ bs k := by
  have := sizeJ_le bs i (k - i)
  rwa [show i + (k - i) = k by omega] at this

theorem sizeJ_next (bs : List (List Int)) (i : Nat) : sizeJ bs (i + 1) = sizeJ bs i + upN (bs.getD i []).length := rfl
theorem sizeJ_zero (bs : List (List Int)) : sizeJ bs 0 = 12 + 16 * bs.length := rfl

theorem sizeJ_in (bs : List (List Int)) {i k : Nat} (h : i < k) : sizeJ bs i + (bs.getD i []).length ≤ sizeJ bs k := by
  have h1 := sizeJ_mono bs (show i + 1 ≤ k by omega)
  have h2 := upN_le (bs.getD i []).length
  have h3 := sizeJ_next bs i
  omega

theorem sizeJ_four (bs : List (List Int)) : ∀ i, sizeJ bs i % 4 = 0
  | 0 => by rw [sizeJ_zero]; omega
  | i + 1 => by have := sizeJ_four bs i; have := upN_le (bs.getD i []).length; rw [sizeJ_next]; omega

theorem joinL_next {ts bs : List (List Int)} {n i : Nat} {j1 : JoinS} (h : joinL ts bs n (i + 1) = some j1) : ∃ j, joinL ts bs n i = some j ∧ j1 = ⟨j.recs ++ ts.getD i [] ++ (putA [sumTag (ts.getD i []) (bs.getD i []), (j.place : Int), ((bs.getD i []).length : Int)] ⟨#[73, 73, 73]⟩).2, j.rest ++ bs.getD i [] ++ List.replicate (upN (bs.getD i []).length - (bs.getD i []).length) 0, j.place + upN (bs.getD i []).length, if ts.getD i [] = headT ∧ 12 ≤ (bs.getD i []).length then some (j.place + 8) else j.hole⟩ := by
  unfold joinL at h
  cases hp : joinL ts bs n i with
  | none => rw [hp] at h; cases h
  | some j =>
    rw [hp] at h
    simp only [Option.bind_some] at h
    unfold joinOne at h
    split at h
    · cases h
    · exact ⟨j, rfl, (Option.some.inj h).symm⟩

/-- what was told stays ahead -/
theorem joinL_ext (ts bs : List (List Int)) (n i : Nat) (j : JoinS) (hj : joinL ts bs n i = some j) : ∀ k j', joinL ts bs n (i + k) = some j' → ∃ X Y, j'.recs = j.recs ++ X ∧ j'.rest = j.rest ++ Y
  | 0, j', h => by
    rw [Nat.add_zero, hj] at h
    obtain rfl := Option.some.inj h
    exact ⟨[], [], by simp, by simp⟩
  | k + 1, j', h => by
    obtain ⟨j1, h1, rfl⟩ := joinL_next h
    obtain ⟨X, Y, hX, hY⟩ := joinL_ext ts bs n i j hj k j1 h1
    exact ⟨_, _, by simp only [hX, List.append_assoc]; rfl, by simp only [hY, List.append_assoc]; rfl⟩

/-- where the sum of the whole goes -/
theorem joinL_hole (ts bs : List (List Int)) (h : JoinOf ts bs) : ∀ i j, i ≤ ts.length → joinL ts bs ts.length i = some j →
    (∀ q, j.hole = some q → ∃ k, k < i ∧ ts.getD k [] = headT ∧ 12 ≤ (bs.getD k []).length ∧ q = sizeJ bs k + 8) ∧ (j.hole = none → ∀ k, k < i → ¬ (ts.getD k [] = headT ∧ 12 ≤ (bs.getD k []).length))
  | 0, j, _, hj => by
    simp only [joinL, Option.some.injEq] at hj
    subst hj
    exact ⟨fun q hq => by simp at hq, fun _ k hk => by omega⟩
  | i + 1, j, hi, hj => by
    obtain ⟨j0, h0, rfl⟩ := joinL_next hj
    obtain ⟨ih1, ih2⟩ := joinL_hole ts bs h i j0 (by omega) h0
    obtain ⟨j0', h0', _, hp, _, _⟩ := joinL_facts ts bs h.len h.one h.most h.four h.size i (by omega)
    rw [h0] at h0'
    obtain rfl := Option.some.inj h0'
    by_cases hc : ts.getD i [] = headT ∧ 12 ≤ (bs.getD i []).length
    · simp only [if_pos hc]
      refine ⟨fun q hq => ⟨i, by omega, hc.1, hc.2, ?_⟩, fun hn => by simp at hn⟩
      rw [← Option.some.inj hq, hp]
    · simp only [if_neg hc]
      refine ⟨fun q hq => ?_, fun hn k hk => ?_⟩
      · obtain ⟨k, hk, r⟩ := ih1 q hq
        exact ⟨k, by omega, r⟩
      · by_cases e : k = i
        · subst e; exact hc
        · exact ih2 hn k (by omega)

/-- the whole before the sum is put: the row of records, the bodies -/
structure Whole (ts bs : List (List Int)) (j : JoinS) (W : List Int) : Prop where
  len : W.length = sizeJ bs bs.length
  head : ∃ R, W = headL ts.length ++ R
  recs : ∀ i, i < ts.length → ∃ A R, A.length = 12 + 16 * i ∧ W = A ++ (ts.getD i [] ++ (lowB 4 (sumTag (ts.getD i []) (bs.getD i [])) ++ (lowB 4 ((sizeJ bs i : Nat) : Int) ++ (lowB 4 ((bs.getD i []).length : Int) ++ R))))
  body : ∀ i, i < ts.length → ∃ A R, A.length = sizeJ bs i ∧ W = A ++ (bs.getD i [] ++ (List.replicate (upN (bs.getD i []).length - (bs.getD i []).length) 0 ++ R))

theorem joinL_whole (ts bs : List (List Int)) (h : JoinOf ts bs) (j : JoinS) (hj : joinL ts bs ts.length ts.length = some j) : Whole ts bs j (j.recs ++ j.rest) := by
  obtain ⟨j', hj', hr, hp, hre, _⟩ := joinL_facts ts bs h.len h.one h.most h.four h.size ts.length (Nat.le_refl _)
  rw [hj] at hj'
  obtain rfl := Option.some.inj hj'
  have hsz := h.size
  have hlen := h.len
  have hone := h.one
  have hmost := h.most
  refine ⟨by rw [List.length_append, hr, ← h.len, ← hp, ← hre]; omega, ?_, ?_, ?_⟩
  · obtain ⟨X, Y, hX, _⟩ := joinL_ext ts bs ts.length 0 ⟨headL ts.length, [], 12 + 16 * ts.length, none⟩ rfl ts.length j (by rw [Nat.zero_add]; exact hj)
    exact ⟨X ++ j.rest, by rw [hX, List.append_assoc]⟩
  · intro i hi
    obtain ⟨j1, hj1, _⟩ := joinL_facts ts bs h.len h.one h.most h.four h.size (i + 1) (by omega)
    obtain ⟨j0, hj0, hr0, hp0, _, _⟩ := joinL_facts ts bs h.len h.one h.most h.four h.size i (by omega)
    obtain ⟨X, Y, hX, _⟩ := joinL_ext ts bs ts.length (i + 1) j1 hj1 (ts.length - (i + 1)) j (by rw [show i + 1 + (ts.length - (i + 1)) = ts.length by omega]; exact hj)
    obtain ⟨j0', hj0', rfl⟩ := joinL_next hj1
    rw [hj0] at hj0'
    obtain rfl := Option.some.inj hj0'
    have hm1 := sizeJ_mono bs (show i ≤ bs.length by omega)
    have hm2 := sizeJ_in bs (show i < bs.length by omega)
    rw [put3_eq _ _ _ (sumTag_b _ _) (by omega) (by omega), hp0] at hX
    exact ⟨j0.recs, X ++ j.rest, hr0, by rw [hX]; simp only [List.append_assoc]⟩
  · intro i hi
    obtain ⟨j1, hj1, _⟩ := joinL_facts ts bs h.len h.one h.most h.four h.size (i + 1) (by omega)
    obtain ⟨j0, hj0, hr0, hp0, hre0, _⟩ := joinL_facts ts bs h.len h.one h.most h.four h.size i (by omega)
    obtain ⟨X, Y, _, hY⟩ := joinL_ext ts bs ts.length (i + 1) j1 hj1 (ts.length - (i + 1)) j (by rw [show i + 1 + (ts.length - (i + 1)) = ts.length by omega]; exact hj)
    obtain ⟨j0', hj0', rfl⟩ := joinL_next hj1
    rw [hj0] at hj0'
    obtain rfl := Option.some.inj hj0'
    exact ⟨j.recs ++ j0.rest, Y, by rw [List.length_append, hr]; omega, by rw [hY]; simp only [List.append_assoc]⟩

/-- the end: the whole, or with four bytes in a body of a table head -/
structure Ended (ts bs : List (List Int)) (W E : List Int) : Prop where
  len : E.length = W.length
  same : ∀ j, (∀ k, k < ts.length → ts.getD k [] = headT → 12 ≤ (bs.getD k []).length → ¬ (sizeJ bs k + 8 ≤ j ∧ j < sizeJ bs k + 12)) → E.getD j 0 = W.getD j 0
  allB : AllB W → AllB E

theorem joinEnd_ended (ts bs : List (List Int)) (h : JoinOf ts bs) (j : JoinS) (hj : joinL ts bs ts.length ts.length = some j) : Ended ts bs (j.recs ++ j.rest) (joinEnd j) := by
  have hw := joinL_whole ts bs h j hj
  have hh := joinL_hole ts bs h ts.length j (Nat.le_refl _) hj
  unfold joinEnd
  cases hq : j.hole with
  | none => exact ⟨rfl, fun _ _ => rfl, fun h => h⟩
  | some q =>
    obtain ⟨k, hk, hkt, hkl, rfl⟩ := hh.1 q hq
    have h1 := sizeJ_in bs (show k < bs.length by have := h.len; omega)
    have h2 := hw.len
    have hp : sizeJ bs k + 8 + 4 ≤ (j.recs ++ j.rest).length := by omega
    generalize hW : j.recs ++ j.rest = W at hp h2 ⊢
    have hx : 0 ≤ (2981146554 - sumS (setFour W (sizeJ bs k + 8) [0, 0, 0, 0])) % 4294967296 ∧ (2981146554 - sumS (setFour W (sizeJ bs k + 8) [0, 0, 0, 0])) % 4294967296 ≤ 4294967295 := by omega
    simp only
    generalize (2981146554 - sumS (setFour W (sizeJ bs k + 8) [0, 0, 0, 0])) % 4294967296 = x at hx ⊢
    rw [put1_eq x hx]
    refine ⟨four_len _ _ _ hp (lowB_len _ _), fun i hi => ?_, fun hA y hy => ?_⟩
    · rw [four_get _ _ _ hp (lowB_len _ _), if_neg (fun hc => hi k hk hkt hkl ⟨by omega, by omega⟩)]
    · rw [four_eq _ _ _ (lowB_len _ _)] at hy
      rcases List.mem_append.1 hy with hy | hy
      · exact hA _ (List.mem_of_mem_take hy)
      · rcases List.mem_append.1 hy with hy | hy
        · exact lowB_b _ _ _ hy
        · exact hA _ (List.mem_of_mem_drop hy)

/-- a table's bytes in the end -/
def pieceE (bs : List (List Int)) (E : List Int) (i : Nat) : List Int := (E.drop (sizeJ bs i)).take (bs.getD i []).length

theorem sumTag_zero (t b c : List Int) (hl : c.length = b.length) (h : ∀ j, j < b.length → c.getD j 0 = b.getD j 0 ∨ (t = headT ∧ 8 ≤ j ∧ j < 12)) : sumTag t c = sumTag t b := by
  unfold sumTag
  by_cases ht : t = headT
  · rw [if_pos ht, if_pos ht]
    congr 1
    apply List.ext_getElem (by rw [zeroTo_len, zeroTo_len, hl])
    intro j h1 h2
    have hj : j < b.length := by rw [zeroTo_len] at h2; exact h2
    have hj' : j < c.length := by omega
    rw [zeroTo_get c 12 j hj', zeroTo_get b 12 j hj]
    split
    · rfl
    · rename_i hn
      rcases h j hj with e | ⟨_, e⟩
      · rw [List.getD_eq_getElem?_getD, List.getD_eq_getElem?_getD, List.getElem?_eq_getElem hj, List.getElem?_eq_getElem hj'] at e
        exact e
      · exact absurd e hn
  · rw [if_neg ht, if_neg ht]
    congr 1
    exact ext_getD hl fun j hj => by
      rcases h j (by omega) with e | ⟨e, _⟩
      · exact e
      · exact absurd e ht

section
variable {ts bs : List (List Int)} {j : JoinS} {W E : List Int}

theorem ended_front (h : JoinOf ts bs) (he : Ended ts bs W E) (i : Nat) (hi : i < 12 + 16 * ts.length) : E.getD i 0 = W.getD i 0 :=
  he.same i fun k hk _ _ hc => by
    have := sizeJ_mono bs (Nat.zero_le k)
    have := sizeJ_zero bs
    have := h.len
    omega

theorem ended_body (hw : Whole ts bs j W) (he : Ended ts bs W E) (i : Nat) (hi : i < ts.length) (m : Nat) (hm : m < (bs.getD i []).length) :
    E.getD (sizeJ bs i + m) 0 = (bs.getD i []).getD m 0 ∨ (ts.getD i [] = headT ∧ 12 ≤ (bs.getD i []).length ∧ 8 ≤ m ∧ m < 12) := by
  by_cases hc : ts.getD i [] = headT ∧ 12 ≤ (bs.getD i []).length ∧ 8 ≤ m ∧ m < 12
  · exact .inr hc
  · left
    rw [he.same]
    · obtain ⟨A, R, hA, hW⟩ := hw.body i hi
      rw [hW, ← hA, getD_right, getD_left _ _ _ hm]
    · intro k hk hkt hkl hc2
      rcases Nat.lt_trichotomy k i with hki | hki | hki
      · have := sizeJ_in bs hki
        omega
      · subst hki; exact hc ⟨hkt, hkl, by omega, by omega⟩
      · have := sizeJ_in bs hki
        omega

theorem ended_pad (hw : Whole ts bs j W) (he : Ended ts bs W E) (i : Nat) (hi : i < ts.length) (m : Nat) (hm : (bs.getD i []).length ≤ m) (hm2 : m < upN (bs.getD i []).length) :
    E.getD (sizeJ bs i + m) 0 = 0 := by
  rw [he.same]
  · obtain ⟨A, R, hA, hW⟩ := hw.body i hi
    obtain ⟨d, rfl⟩ : ∃ d, m = (bs.getD i []).length + d := ⟨m - (bs.getD i []).length, by omega⟩
    rw [hW, ← hA, getD_right, getD_right, getD_left _ _ _ (by rw [List.length_replicate]; omega)]
    rw [List.getD_eq_getElem?_getD, List.getElem?_replicate]
    split <;> rfl
  · intro k hk hkt hkl hc2
    rcases Nat.lt_trichotomy k i with hki | hki | hki
    · have := sizeJ_in bs hki
      omega
    · subst hki; omega
    · have := sizeJ_mono bs (show i + 1 ≤ k by omega)
      rw [sizeJ_next] at this
      omega

theorem piece_len (h : JoinOf ts bs) (hw : Whole ts bs j W) (he : Ended ts bs W E) (i : Nat) (hi : i < ts.length) : (pieceE bs E i).length = (bs.getD i []).length := by
  have := sizeJ_in bs (show i < bs.length by have := h.len; omega)
  have := hw.len
  have := he.len
  exact slice_len _ _ _ (by omega)

theorem piece_sum (h : JoinOf ts bs) (hw : Whole ts bs j W) (he : Ended ts bs W E) (i : Nat) (hi : i < ts.length) : sumTag (ts.getD i []) (pieceE bs E i) = sumTag (ts.getD i []) (bs.getD i []) := by
  refine sumTag_zero _ _ _ (piece_len h hw he i hi) fun m hm => ?_
  unfold pieceE
  rw [slice_getD _ _ _ _ hm]
  rcases ended_body hw he i hi m hm with e | e
  · exact .inl e
  · exact .inr ⟨e.1, e.2.2⟩

/-- the record i of the end -/
theorem ended_tabAt (h : JoinOf ts bs) (hw : Whole ts bs j W) (he : Ended ts bs W E) (i : Nat) (hi : i < ts.length) :
    tabAt E i = (ts.getD i [], ((sizeJ bs i : Nat) : Int), ((bs.getD i []).length : Int)) ∧ numAt E ((12 + 16 * i + 4 : Nat) : Int) 4 = sumTag (ts.getD i []) (bs.getD i []) := by
  obtain ⟨A, R, hA, hW⟩ := hw.recs i hi
  have hl := hw.len
  have hel := he.len
  have hz := sizeJ_zero bs
  have hm := sizeJ_mono bs (Nat.zero_le bs.length)
  have hln := h.len
  have hmi := sizeJ_mono bs (show i ≤ bs.length by omega)
  have hin := sizeJ_in bs (show i < bs.length by omega)
  have hsz := h.size
  have h4 := h.four _ (getD_mem' hi)
  have get : ∀ d, d < 16 → E.getD (12 + 16 * i + d) 0 = (ts.getD i [] ++ (lowB 4 (sumTag (ts.getD i []) (bs.getD i [])) ++ (lowB 4 ((sizeJ bs i : Nat) : Int) ++ (lowB 4 ((bs.getD i []).length : Int) ++ R)))).getD d 0 := fun d hd => by
    rw [ended_front h he _ (by omega), hW, ← hA, getD_right]
  have hall : ∀ d : Nat, d ≤ 12 → allB E.length ((12 + 16 * i + d : Nat) : Int) ((4 : Nat) : Int) = true := fun d hd => by
    unfold allB
    rw [decide_eq_true_eq]
    omega
  have sum4 : ∀ k, k < 4 → E.getD (12 + 16 * i + 4 + k) 0 = (lowB 4 (sumTag (ts.getD i []) (bs.getD i []))).getD k 0 := fun k hk => by
    have e := get (4 + k) (by omega)
    have e2 := getD_right (ts.getD i []) (lowB 4 (sumTag (ts.getD i []) (bs.getD i [])) ++ (lowB 4 ((sizeJ bs i : Nat) : Int) ++ (lowB 4 ((bs.getD i []).length : Int) ++ R))) k
    rw [h4] at e2
    rw [Nat.add_assoc, e, e2, getD_left _ _ _ (by rw [lowB_len]; exact hk)]
  have pl4 : ∀ k, k < 4 → E.getD (12 + 16 * i + 8 + k) 0 = (lowB 4 ((sizeJ bs i : Nat) : Int)).getD k 0 := fun k hk => by
    have e := get (4 + (4 + k)) (by omega)
    have e2 := getD_right (ts.getD i []) (lowB 4 (sumTag (ts.getD i []) (bs.getD i [])) ++ (lowB 4 ((sizeJ bs i : Nat) : Int) ++ (lowB 4 ((bs.getD i []).length : Int) ++ R))) (4 + k)
    have e3 := getD_right (lowB 4 (sumTag (ts.getD i []) (bs.getD i []))) (lowB 4 ((sizeJ bs i : Nat) : Int) ++ (lowB 4 ((bs.getD i []).length : Int) ++ R)) k
    rw [h4] at e2
    rw [lowB_len] at e3
    rw [show 12 + 16 * i + 8 + k = 12 + 16 * i + (4 + (4 + k)) by omega, e, e2, e3, getD_left _ _ _ (by rw [lowB_len]; exact hk)]
  have ln4 : ∀ k, k < 4 → E.getD (12 + 16 * i + 12 + k) 0 = (lowB 4 ((bs.getD i []).length : Int)).getD k 0 := fun k hk => by
    have e := get (4 + (4 + (4 + k))) (by omega)
    have e2 := getD_right (ts.getD i []) (lowB 4 (sumTag (ts.getD i []) (bs.getD i [])) ++ (lowB 4 ((sizeJ bs i : Nat) : Int) ++ (lowB 4 ((bs.getD i []).length : Int) ++ R))) (4 + (4 + k))
    have e3 := getD_right (lowB 4 (sumTag (ts.getD i []) (bs.getD i []))) (lowB 4 ((sizeJ bs i : Nat) : Int) ++ (lowB 4 ((bs.getD i []).length : Int) ++ R)) (4 + k)
    have e4 := getD_right (lowB 4 ((sizeJ bs i : Nat) : Int)) (lowB 4 ((bs.getD i []).length : Int) ++ R) k
    rw [h4] at e2
    rw [lowB_len] at e3 e4
    rw [show 12 + 16 * i + 12 + k = 12 + 16 * i + (4 + (4 + (4 + k))) by omega, e, e2, e3, e4, getD_left _ _ _ (by rw [lowB_len]; exact hk)]
  have nat : ∀ d : Nat, (((d : Nat) : Int)).toNat = d := fun d => Int.toNat_natCast d
  refine ⟨?_, ?_⟩
  · unfold tabAt numAt
    rw [if_pos (hall 8 (by omega)), if_pos (hall 12 (by omega)), nat, nat, num4 E _ _ (by omega) pl4, num4 E _ _ (by omega) ln4]
    congr 1
    have g0 := get 0 (by omega)
    have g1 := get 1 (by omega)
    have g2 := get 2 (by omega)
    have g3 := get 3 (by omega)
    rw [getD_left _ _ _ (by omega)] at g0 g1 g2 g3
    rw [Nat.add_zero] at g0
    rw [g0, g1, g2, g3, ← four_of h4]
  · unfold numAt
    rw [if_pos (hall 4 (by omega)), nat, num4 E _ _ (sumTag_b _ _) sum4]

theorem order_less (h : JoinOf ts bs) (i : Nat) (hi : i < ts.length) (h0 : 0 < i) : lessL (ts.getD (i - 1) []) (ts.getD i []) = true := by
  have ho := h.order
  unfold inOrder at ho
  rw [List.all_eq_true] at ho
  have := ho i (List.mem_range.2 hi)
  simp only [Bool.or_eq_true, decide_eq_true_eq] at this
  rcases this with e | e
  · omega
  · exact e

/-- none of its records is wrong -/
theorem ended_tabs (h : JoinOf ts bs) (hw : Whole ts bs j W) (he : Ended ts bs W E) : ∀ i, i ≤ ts.length → tabsL E ts.length i = some ((List.range i).map (tabAt E))
  | 0, _ => rfl
  | i + 1, hi => by
    have hi' : i < ts.length := by omega
    obtain ⟨ht, hs⟩ := ended_tabAt h hw he i hi'
    have hln := h.len
    have hl := hw.len
    have hel := he.len
    have hin := sizeJ_in bs (show i < bs.length by omega)
    have h0 := sizeJ_mono bs (Nat.zero_le i)
    have hz := sizeJ_zero bs
    have hf := sizeJ_four bs i
    rw [tabsL_step E ts.length i _ (ended_tabs h hw he i (by omega)), List.range_succ, List.map_append]
    · rfl
    · unfold badTab
      rw [hs, ht]
      simp only [Int.toNat_natCast]
      have e1 : decide (((sizeJ bs i : Nat) : Int) % 4 ≠ 0) = false := decide_eq_false (by omega)
      have e2 : decide (((sizeJ bs i : Nat) : Int) < 12 + 16 * (ts.length : Int)) = false := decide_eq_false (by omega)
      have e3 : allB E.length ((sizeJ bs i : Nat) : Int) ((bs.getD i []).length : Int) = true := by
        unfold allB
        rw [decide_eq_true_eq]
        omega
      have e4 : sumTag (ts.getD i []) ((E.drop (sizeJ bs i)).take (bs.getD i []).length) = sumTag (ts.getD i []) (bs.getD i []) := piece_sum h hw he i hi'
      have e6 : decide (sumTag (ts.getD i []) ((E.drop (sizeJ bs i)).take (bs.getD i []).length) ≠ sumTag (ts.getD i []) (bs.getD i [])) = false := decide_eq_false (fun hne => hne e4)
      rw [e1, e2, e3, e6]
      simp only [Bool.not_true, Bool.false_or]
      by_cases hi0 : 0 < i
      · have e5 : (((List.range i).map (tabAt E)).getD (i - 1) ([], 0, 0)).1 = ts.getD (i - 1) [] := by
          rw [List.getD_eq_getElem?_getD, List.getElem?_map, List.getElem?_range (by omega)]
          show (tabAt E (i - 1)).1 = _
          rw [(ended_tabAt h hw he (i - 1) (by omega)).1]
        rw [e5, order_less h i hi' hi0]
        simp
      · rw [decide_eq_false hi0]; rfl
    · rw [List.any_eq_false]
      intro u hu
      obtain ⟨k, hk, rfl⟩ := List.mem_map.1 hu
      have hk' : k < i := List.mem_range.1 hk
      rw [ht, (ended_tabAt h hw he k (by omega)).1]
      have := sizeJ_in bs hk'
      unfold overTab
      have e : decide (((sizeJ bs i : Nat) : Int) < ((sizeJ bs k : Nat) : Int) + ((bs.getD k []).length : Int)) = false := decide_eq_false (by omega)
      simp only [e]
      simp

theorem tabs_joined (h : JoinOf ts bs) (hw : Whole ts bs j W) (he : Ended ts bs W E) : tablesS E = ((List.range ts.length).map (fun i => (ts.getD i [], ((sizeJ bs i : Nat) : Int), ((bs.getD i []).length : Int))), 0) := by
  have hl := hw.len
  have hel := he.len
  have hln := h.len
  have hsz := h.size
  have hone := h.one
  have hmost := h.most
  have hz := sizeJ_zero bs
  have h0 := sizeJ_mono bs (Nat.zero_le bs.length)
  have hhl := headL_len ts.length hone hmost
  obtain ⟨R, hR⟩ := hw.head
  obtain ⟨R2, hR2⟩ := headL_eq ts.length hone hmost
  have hn : numAt E 4 2 = (ts.length : Int) := by
    unfold numAt
    rw [if_pos (by unfold allB; rw [decide_eq_true_eq]; omega)]
    refine num2 E _ _ (by omega) fun k hk => ?_
    show E.getD (4 + k) 0 = _
    rw [ended_front h he _ (by omega), hR, hR2, List.append_assoc]
    have e := getD_right (lowB 4 65536) (lowB 2 (ts.length : Int) ++ R2 ++ R) k
    rw [lowB_len] at e
    rw [e, List.append_assoc, getD_left _ _ _ (by rw [lowB_len]; exact hk)]
  have hb : badFont E = false := by
    unfold badFont
    rw [hn, Int.toNat_natCast]
    have e1 : decide (16777216 < E.length) = false := decide_eq_false (by omega)
    have e2 : decide (E.length < 12) = false := decide_eq_false (by omega)
    have e3 : decide ((ts.length : Int) < 1) = false := decide_eq_false (by omega)
    have e4 : decide (64 < (ts.length : Int)) = false := decide_eq_false (by omega)
    have e5 : E.take 12 = headL ts.length := by
      apply ext_getD (by rw [List.length_take, hhl]; omega)
      intro k hk
      rw [List.length_take] at hk
      rw [List.getD_eq_getElem?_getD, List.getElem?_take_of_lt (by omega), ← List.getD_eq_getElem?_getD, ended_front h he _ (by omega), hR, getD_left _ _ _ (by omega)]
    have e6 : decide ((E.length : Int) < 12 + 16 * (ts.length : Int)) = false := decide_eq_false (by omega)
    rw [e1, e2, e3, e4, e5, e6]
    simp
  unfold tablesS
  rw [hb, hn, Int.toNat_natCast, ended_tabs h hw he ts.length (Nat.le_refl _)]
  simp only [Bool.false_eq_true, if_false]
  congr 1
  apply List.map_congr_left
  intro i hi
  exact (ended_tabAt h hw he i (List.mem_range.1 hi)).1
end

theorem joinS_ok (ts bs : List (List Int)) (h : JoinOf ts bs) : ∃ j, joinL ts bs ts.length ts.length = some j ∧ joinS ts bs = (joinEnd j, 0) := by
  obtain ⟨j, hj, hr, hp, _, _⟩ := joinL_facts ts bs h.len h.one h.most h.four h.size ts.length (Nat.le_refl _)
  have h1 := h.one
  have h2 := h.most
  have h3 := h.len
  have h4 := h.size
  refine ⟨j, hj, ?_⟩
  unfold joinS
  rw [if_neg (by omega), if_neg (by rw [h.order]; decide), hj]
  simp only
  rw [if_neg (by rw [hp, h3]; omega)]

/-- an answer of Join without an error -/
theorem joinOf_of (ts bs : List (List Int)) (h4 : ∀ t ∈ ts, t.length = 4 ∧ AllB t) (hb : ∀ b ∈ bs, AllB b) (hsz : sizeJ bs bs.length ≤ 1000000) (h : (joinS ts bs).2 = 0) : JoinOf ts bs := by
  unfold joinS at h
  split at h
  · cases h
  · rename_i hc
    split at h
    · cases h
    · rename_i ho
      exact ⟨by omega, by omega, by omega, fun t ht => (h4 t ht).1, fun t ht => (h4 t ht).2, hb, by cases hx : inOrder ts ts.length with | true => rfl | false => exact absurd hx ho, hsz⟩
end Go.Proofs.Ytijmponhkabeiaa
