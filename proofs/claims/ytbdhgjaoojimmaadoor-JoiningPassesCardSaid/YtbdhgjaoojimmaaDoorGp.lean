/-
  What is lent to a call; how a call gives up.
-/
import Derived.Test.YtbdhgjaoojimmaaDoorGn
namespace Go.Proofs.YtbdhgjaoojimmaaDoor
open Go Go.RowKit
set_option linter.unusedVariables false

/-- how a call ends that may give up -/
inductive Pan (R G : Type) where
  | ok (r : R)
  | gone (g : G)

/-- what it is given up with -/
def goneB (T : Nat) (n : Int) : List PanicEntry := [{ v := .iface T (.agg #[.int .i64 n]), recovered := false }]

section
variable {P : Program} {ro : Option Nat} {n : Nat} {ops : Array Oper} {Q : Exit → Act → World → Prop} {rest : List Oper} {o : Oper} {a : Act} {w : World}

theorem gx_callX {f : Nat} {args : Array Value} (X : List PanicEntry → World → Prop) (hg : gok o ops a = true) (hr : (execOp a.eval o).run P w = .ok (.enter f args) w)
    (hc : Calls P f args w fun e w' => ∃ c, e = .panicked c ∧ X c w')
    (h : ∀ c w', X c w' → WQ Q (.panic c) a w') : WL ro n P ops Q (o :: rest) a w := by
  unfold gok at hg
  rw [Bool.and_eq_true] at hg
  constructor
  unfold wpListIn
  rw [if_pos hg.1]
  refine ⟨fun _ _ => trivial, ?_⟩
  rw [semAt_fw hg.2, hr]
  refine ⟨fun hd => (by cases hd), calls_in (hc.mono ?_)⟩
  rintro e w' ⟨c, rfl, hX⟩
  exact (h c w' hX).out

theorem gx_panic {x : Operand} {v : Value} (hg : gok o ops a = true) (ho : o.op = .panic x) (hv : (Instr.panic (a.eval x)).run P w = .halt (.panic v) w)
    (h : WQ Q (.panic [{ v := v, recovered := false }]) a w) : WL ro n P ops Q (o :: rest) a w := by
  unfold gok at hg
  rw [Bool.and_eq_true] at hg
  constructor
  unfold wpListIn
  rw [if_pos hg.1]
  refine ⟨fun _ _ => trivial, ?_⟩
  have hr : (execOp a.eval o).run P w = .halt (.panic v) w := by
    unfold execOp
    rw [ho]
    simp only [Sem.run_bind, hv]
    rfl
  rw [semAt_fw hg.2, hr]
  exact h.out

theorem gx_thenP {K : Act → World → Prop} {c : List PanicEntry} (h : WQ Q (.panic c) a w) : WQ (Exit.then K Q) (.panic c) a w := ⟨h.out⟩
theorem gx_blkP {id : Nat} {c : List PanicEntry} (h : WQ Q (.panic c) a w) : WQ (Exit.inBlock id Q) (.panic c) a w := ⟨h.out⟩
theorem gx_jmpP {l : Nat} {J : Act → World → Prop} {c : List PanicEntry} (h : WQ Q (.panic c) a w) : WQ (Exit.jump l J Q) (.panic c) a w := ⟨h.out⟩
theorem gx_finP {fn : Func} {R : Ending → World → Prop} {c : List PanicEntry} (hd : a.defers = []) (h : R (.panicked c) w) : WQ (bodyPost P fn R) (.panic c) a w := ⟨hd, h⟩

section
variable {S : World → Prop} {fuel : Nat} {listed : Array Bool}
theorem gdCX (i : Nat) (oi : Oper) {f : Nat} {args : Array Value} (X : List PanicEntry → World → Prop) (hi : ops[i]? = some oi) (hx : (execOp a.eval oi).run P w = .ok (.enter f args) w)
    (hcall : Calls P f args w fun e w' => ∃ c, e = .panicked c ∧ X c w')
    (h : ∀ c w', X c w' → WQ Q (.panic c) a w')
    (hc : (plainOp oi && (decide (Region.ready .any ops listed = [i]) && Region.wanted oi (yielded ops a.tmps))) = true := by as_aux_lemma => kernel_rfl) :
    WD ro n P ops Q S (fuel + 1) listed a w := by
  refine gd_one i oi hi hc ?_
  rw [hx]
  refine ⟨fun hd => (by cases hd), calls_in (hcall.mono ?_)⟩
  rintro e w' ⟨c, rfl, hX⟩
  exact (h c w' hX).out
end
end

/-! ### what is lent -/
def foots (es : List Ent) : List Nat := (es.map Ent.foot).flatten

section
variable {bs : List Nat} {w0 w w' : World} {A B es : List Ent}

theorem mem_foots {k : Nat} {es : List Ent} : k ∈ foots es ↔ ∃ e ∈ es, k ∈ e.foot := by
  simp only [foots, List.mem_flatten, List.mem_map]
  constructor
  · rintro ⟨l, ⟨e, he, rfl⟩, hk⟩; exact ⟨e, he, hk⟩
  · rintro ⟨e, he, hk⟩; exact ⟨_, ⟨e, he, rfl⟩, hk⟩

theorem St.part (h : St bs w0 w (A ++ B)) : St (foots A) w w A := by
  refine ⟨But.refl _ _ _, fun e he => ?_, (List.pairwise_append.1 h.apart).1⟩
  obtain ⟨h1, h2⟩ := h.holds e (by simp [he])
  exact ⟨h1, fun k hk => ⟨.inr (mem_foots.2 ⟨e, he, hk⟩), (h2 k hk).2⟩⟩

/-- a call to which the entries A were lent -/
theorem St.lendN (h : St bs w0 w (A ++ B)) (es' : List Ent) (h' : St (foots A) w w' es') : St bs w0 w' (B ++ es') := by
  have hp := List.pairwise_append.1 h.apart
  have fA : ∀ k ∈ foots A, (w0.heap.size ≤ k ∨ k ∈ bs) ∧ k < w.heap.size := fun k hk => by
    obtain ⟨e, he, hk⟩ := mem_foots.1 hk
    exact (h.holds e (by simp [he])).2 k hk
  have apart : ∀ e ∈ B, ∀ k ∈ e.foot, k ∉ foots A := fun e he k hk hk2 => by
    obtain ⟨a, ha, hka⟩ := mem_foots.1 hk2
    exact hp.2.2 a ha e he k hka hk
  refine ⟨h.but.trans (h'.but.mono h.size (fun k hk hm => ?_)), fun x hx => ?_, List.pairwise_append.2 ⟨hp.2.1, h'.apart, fun a ha b hb k hk hk2 => ?_⟩⟩
  · rcases (fA k hm).1 with h1 | h1
    · omega
    · exact h1
  · rcases List.mem_append.1 hx with hxa | hxb
    · obtain ⟨h1, h2⟩ := h.holds x (by simp [hxa])
      exact ⟨x.loc w w' (fun k hk => h'.but.block k (h2 k hk).2 (apart x hxa k hk)) h1, fun k hk => ⟨(h2 k hk).1, Nat.lt_of_lt_of_le (h2 k hk).2 h'.size⟩⟩
    · obtain ⟨h1, h2⟩ := h'.holds x hxb
      refine ⟨h1, fun k hk => ⟨?_, (h2 k hk).2⟩⟩
      rcases (h2 k hk).1 with h3 | h3
      · exact .inl (Nat.le_trans h.size h3)
      · exact (fA k h3).1
  · have h1 := ((h.holds a (by simp [ha])).2 k hk).2
    rcases ((h'.holds b hb).2 k hk2).1 with h3 | h3
    · omega
    · exact apart a ha k hk h3

/-- entries that came in -/
theorem St.lentN {w : World} {es : List Ent} (hh : ∀ e ∈ es, e.holds w ∧ ∀ k ∈ e.foot, k < w.heap.size) (hp : es.Pairwise (fun a b => ∀ k ∈ a.foot, k ∉ b.foot)) : St (foots es) w w es :=
  ⟨But.refl _ _ _, fun e he => ⟨(hh e he).1, fun k hk => ⟨.inr (mem_foots.2 ⟨e, he, hk⟩), (hh e he).2 k hk⟩⟩, hp⟩

theorem St.outA (h : St bs w0 w (A ++ B)) {k : Nat} (h1 : k < w0.heap.size) (h2 : k ∉ bs) : k ∉ foots A := fun hm => by
  obtain ⟨e, he, hk⟩ := mem_foots.1 hm
  rcases ((h.holds e (by simp [he])).2 k hk).1 with h3 | h3
  · omega
  · exact h2 h3

theorem St.outB (h : St bs w0 w (A ++ B)) {e : Ent} {i k : Nat} (hi : B[i]? = some e) (hk : k ∈ e.foot) : k ∉ foots A := fun hm => by
  obtain ⟨a, ha, hka⟩ := mem_foots.1 hm
  exact (List.pairwise_append.1 h.apart).2.2 a ha e (List.mem_of_getElem? hi) k hka hk

/-- what came in, lent on -/
theorem St.vwA (h : St bs w0 w (A ++ B)) {k : IntKind} {X : Option Addr} {c : Nat} {l : List Int} (hv : Vw bs k w0 X c l) : Vw (foots A) k w X c l := by
  refine ⟨h.view hv, hv.nn, fun p hp hne => ?_⟩
  obtain ⟨g, off, e, hg, _⟩ := hv.num.cells hne
  rw [hp] at e
  injection e with e
  subst e
  exact h.outA hg (hv.off _ hp hne)

theorem St.vwB (h : St bs w0 w (A ++ B)) {k : IntKind} {T : Nat} {X : Option Addr} {c : Nat} {l : List Int} (i : Nat) (hi : B[i]? = some (rowE k T X c l)) : Vw (foots A) k w X c l := by
  have hB : (rowE k T X c l).holds w := (h.holds _ (List.mem_append_right _ (List.mem_of_getElem? hi))).1
  refine ⟨(rowE_read hB).1, (rowE_read hB).2, fun p hp _ => ?_⟩
  subst hp
  exact h.outB hi (by simp [rowE, rowG, Value.ownBlock])

theorem St.vwF {k : IntKind} {X : Option Addr} {c : Nat} {l : List Int} {vs : List Value} {ft : List Nat} (ho : Off (foots A) w ft) (hf : (fSl (intE k) X c vs l).rd w ft) : Vw (foots A) k w X c l := by
  obtain ⟨h1, h2, h3⟩ := fSl_num hf
  exact ⟨h1, h2, fun p hp hne => (ho _ (h3 p hp hne)).2⟩

theorem St.offPA {W : World} {ft : List Nat} (h : St bs w0 w (A ++ B)) (i : Nat) (hi : B[i]? = some (poolE ft W)) : Off (foots A) w ft := fun k hk =>
  ⟨((h.holds _ (List.mem_append_right _ (List.mem_of_getElem? hi))).2 k hk).2, h.outB hi hk⟩

theorem St.offMA {W : World} {ft inn : List Nat} (h : St bs w0 w (A ++ B)) (i : Nat) (hi : B[i]? = some (poolE ft W)) (hI : Inn bs w0 inn W) : Off (foots A) w (ft ++ inn) := fun k hk => by
  rcases List.mem_append.1 hk with hk | hk
  · exact h.offPA i hi k hk
  · exact ⟨Nat.lt_of_lt_of_le (hI k hk).1 h.size, h.outA (hI k hk).1 (hI k hk).2.1⟩

theorem St.offIA {ft : List Nat} (h : St bs w0 w (A ++ B)) (ho : Off bs w0 ft) : Off (foots A) w ft := fun k hk => ⟨Nat.lt_of_lt_of_le (ho k hk).1 h.size, h.outA (ho k hk).1 (ho k hk).2⟩

theorem St.offRA {e : Ent} {ft : List Nat} (h : St bs w0 w (A ++ B)) (i : Nat) (hi : B[i]? = some e) (ho : Off (foots A) w ft) : Off (foots A) w (e.foot ++ ft) := fun k hk => by
  rcases List.mem_append.1 hk with hk | hk
  · exact ⟨((h.holds _ (List.mem_append_right _ (List.mem_of_getElem? hi))).2 k hk).2, h.outB hi hk⟩
  · exact ho k hk

end

/-- a struct that lies in a box, and what stands beside it, are told -/
theorem res_ct {P : Program} {fn : Func} {p q : Tmp} {ty : TypeId} (h : fn.results = #[.cell p ty, .tmp q]) (tmps : Array Value) (w : World) (g : Nat) (t : TypeId) (cs : Array Value) (fr : Nat × Nat)
    (hp : tmps.getD p undef = .pointer (some ⟨g, 0, none⟩)) (hg : w.heap[g]? = some (.cells cs t fr)) (hu : aggD P ty = true) (hi : (P.info? ty).map (·.size) = some cs.size) (v : Value) (hq : tmps.getD q undef = v) : (results fn tmps).run P w = .ok (.tuple #[.agg cs, v]) w := by
  have hp' : tmps[p]?.getD undef = .pointer (some ⟨g, 0, none⟩) := by simpa using hp
  have hq' : tmps[q]?.getD undef = v := by simpa using hq
  unfold aggD at hu
  cases hd : P.underlying ty with
  | none => rw [hd] at hu; cases hu
  | some d => simp [results, h, hp', hq', asAddr, run_loadVar_row w g t ty cs fr d hg hd (by rw [hd] at hu; cases d <;> simp_all) hi]

theorem pan_ok {P : Program} {f : Nat} {args : Array Value} {w0 : World} {T G : Type} {r : T} {R : T → Value → World → Prop} {X : G → List PanicEntry → World → Prop}
    (h : Calls P f args w0 fun e w => (∃ r', (Pan.ok r : Pan T G) = .ok r' ∧ ∃ v, e = .returned v ∧ R r' v w) ∨ (∃ g, (Pan.ok r : Pan T G) = .gone g ∧ ∃ c, e = .panicked c ∧ X g c w)) : Calls P f args w0 fun e w => ∃ v, e = .returned v ∧ R r v w :=
  h.mono (by
    rintro e w (⟨r', h1, h2⟩ | ⟨g, h1, _⟩)
    · injection h1 with h1; subst h1; exact h2
    · cases h1)

theorem pan_gone {P : Program} {f : Nat} {args : Array Value} {w0 : World} {T G : Type} {g : G} {R : T → Value → World → Prop} {X : G → List PanicEntry → World → Prop}
    (h : Calls P f args w0 fun e w => (∃ r', (Pan.gone g : Pan T G) = .ok r' ∧ ∃ v, e = .returned v ∧ R r' v w) ∨ (∃ g', (Pan.gone g : Pan T G) = .gone g' ∧ ∃ c, e = .panicked c ∧ X g' c w)) : Calls P f args w0 fun e w => ∃ c, e = .panicked c ∧ X g c w :=
  h.mono (by
    rintro e w (⟨r', h1, _⟩ | ⟨g', h1, h2⟩)
    · cases h1
    · injection h1 with h1; subst h1; exact h2)
end Go.Proofs.YtbdhgjaoojimmaaDoor
