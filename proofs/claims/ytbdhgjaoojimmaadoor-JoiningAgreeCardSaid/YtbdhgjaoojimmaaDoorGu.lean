/-
  Maps of one's own, of numbers by numbers; entries in one; rows of one's own whose elements have rows of one's own.
-/
import Derived.Test.YtbdhgjaoojimmaaDoorGs
import Derived.Maps.OwnSet
namespace Go.Proofs.YtbdhgjaoojimmaaDoor
open Go Go.RowKit
set_option linter.unusedVariables false

/-! ### maps -/
def mget (m : List (Int × Int)) (k : Int) : Option Int := (m.find? fun p => p.1 == k).map (·.2)
def mapE (P : Program) (kt et : Nat) (kk ek : IntKind) (b : Nat) (m : List (Int × Int)) : Ent where
  foot := [b]
  holds w := ∃ D : DataW Unit, w.ownsMap P kt (plainElem P et) b m.length D ∧ ∀ key, (Lit.int kk key).wf = true → Maps.has D (.int kk key) = (mget m key).isSome ∧ ∀ v, mget m key = some v → ∀ z, D.atKey (.int kk key) z = .lit (.int ek v)
  loc w w' hk h := by
    obtain ⟨D, ⟨es, clock, hb, F, hs, hD⟩, h2⟩ := h
    exact ⟨D, ⟨es, clock, (hk b (by simp)).trans hb, F, hs, hD⟩, h2⟩
def mlook (kk : IntKind) (m : List (Int × Int)) (k : Int) : Option (Int × Bool) := if (Lit.int kk k).wf = true then some ((mget m k).getD 0, (mget m k).isSome) else none
def mput (kk ek : IntKind) (m : List (Int × Int)) (k v : Int) : Option (List (Int × Int)) := if (Lit.int kk k).wf = true ∧ (Lit.int ek v).wf = true ∧ m.length < 1000000000 then some ((k, v) :: m) else none

section
variable {P : Program} {bs : List Nat} {w0 w : World} {es : List Ent} {o : Oper} {ρ : Operand → Value} {T kt et b : Nat} {kk ek : IntKind} {m : List (Int × Int)}

theorem st_mkmap (ho : o.op = .makeMap T none) (h : St bs w0 w es) :
    ∃ v w', (execOp ρ o).run P w = .ok (.value v) w' ∧ (v = .map (some w.heap.size) ∧ St bs w0 w' (es ++ [mapE P kt et kk ek w.heap.size []])) := by
  refine ⟨_, w.alloc (.map #[] 0), ?_, rfl, ?_⟩
  · unfold execOp
    rw [ho]
    simp only [Option.map_none, Sem.run_bind, run_makeMap, Result.andThen_ok, Sem.run_pure]
  · refine h.add ((Below.refl _ w).alloc (Nat.le_refl _) _) _ ⟨.map [], World.ownsMap_made w P kt _, fun key _ => ⟨rfl, fun v hv => by cases hv⟩⟩ (fun k hk => ?_)
    simp [mapE] at hk
    subst hk
    exact ⟨Nat.le_refl _, heap_more _ _⟩

theorem run_mlook {x y : Operand} {key v : Int} {q : Bool} (ho : o.op = .lookup T x y true) (hx : ρ x = .map (some b)) (hy : ρ y = .int kk key) (h : (mapE P kt et kk ek b m).holds w)
    (hT : P.underlying T = some (.map kt et)) (hk : P.underlying kt = some (.int kk)) (he : P.underlying et = some (.int ek)) (hz : ∀ w, (zeroValue et).run P w = .ok (.int ek 0) w) (hq : mlook kk m key = some (v, q)) :
    (execOp ρ o).run P w = .ok (.value (.tuple #[.int ek v, .bool q])) w := by
  obtain ⟨D, hown, hD⟩ := h
  unfold mlook at hq
  split at hq
  · rename_i hw
    injection hq with hq
    injection hq with h1 h2
    obtain ⟨d1, d2⟩ := hD key hw
    obtain ⟨u, ps, hrun, hu⟩ := hown.look_ok (Maps.int_keyed hk) hT (hz w) (plainElem_int he (by cases ek <;> decide)) (Maps.keyOf_int_mk hk hw)
    obtain ⟨c, rfl, hc, _⟩ := plainElem_int_inv he hu
    have hc := congrArg Prod.fst hc
    have hv : c = v := by
      cases hm : mget m key with
      | some v' =>
        rw [d2 v' hm] at hc
        rw [hm] at h1
        injection hc with hc
        injection hc with _ hc
        rw [← hc]; exact h1
      | none =>
        rw [hm] at d1 h1
        rw [Maps.atKey_of_not_has d1] at hc
        injection hc with hc
        injection hc with _ hc
        rw [← hc]; exact h1
    unfold execOp
    rw [ho]
    simp only [hx, hy, Sem.run_bind, hrun, Result.andThen_ok, Sem.run_pure]
    rw [hv, d1, h2]
  · cases hq

theorem st_mput {x y z : Operand} {key v : Int} {m' : List (Int × Int)} (ho : o.op = .mapUpdate T x y z) (hx : ρ x = .map (some b)) (hy : ρ y = .int kk key) (hz : ρ z = .int ek v) (h : St bs w0 w es) (i : Nat) (hi : es[i]? = some (mapE P kt et kk ek b m))
    (hT : P.underlying T = some (.map kt et)) (hk : P.underlying kt = some (.int kk)) (he : P.underlying et = some (.int ek)) (hq : mput kk ek m key v = some m') :
    ∃ w', (execOp ρ o).run P w = .ok .skip w' ∧ St bs w0 w' (es.set i (mapE P kt et kk ek b m')) := by
  obtain ⟨D, hown, hD⟩ := h.get i hi
  unfold mput at hq
  split at hq
  · rename_i hw
    injection hq with hq
    subst hq
    have hK := Maps.int_keyed (P := P) hk
    have hkey := Maps.keyOf_int_mk hk hw.1
    obtain ⟨w', hrun, hown', hg⟩ := hown.update hK hT (by have := hw.2.2; unfold maxLen; omega) hkey (plainElem_int he hw.2.1)
    refine ⟨w', ?_, ?_⟩
    · unfold execOp
      rw [ho]
      simp only [hx, hy, hz, Sem.run_bind, hrun, Result.andThen_ok, Sem.run_pure]
    · refine h.turn i hi ⟨hg.os, hg.tape, hg.output⟩ hg.size (fun q hq hne => hg.block q hq (fun e => hne (by injection e with e; simp [mapE, e]))) _ ⟨_, hown', fun key' hw' => ?_⟩ (fun q hq => .inl hq)
      by_cases hkk : key' = key
      · subst hkk
        refine ⟨?_, fun v' hv' z => ?_⟩
        · rw [Maps.has_put_same hown.isMap (hK.key hkey)]
          simp [mget]
        · rw [Maps.atKey_put_same hown.isMap (hK.key hkey)]
          simp [mget] at hv'
          rw [hv']
      · have hne : Lit.int kk key' ≠ Lit.int kk key := fun e => hkk (by injection e)
        have hmg : mget ((key, v) :: m) key' = mget m key' := by
          unfold mget
          rw [List.find?_cons_of_neg (by simpa using fun e => hkk e.symm)]
        rw [Maps.has_put_other hne, hmg]
        obtain ⟨d1, d2⟩ := hD key' hw'
        exact ⟨d1, fun v' hv' z => by rw [Maps.atKey_put_other hne]; exact d2 v' hv' z⟩
  · cases hq
end

/-! ### entries in one -/
def bagE (es : List Ent) : Ent where
  foot := foots es
  holds w := (∀ e ∈ es, e.holds w) ∧ es.Pairwise (fun (a b : Ent) => ∀ k : Nat, k ∈ a.foot → k ∉ b.foot)
  loc w w' hk h := ⟨fun e he => e.loc w w' (fun k hm => hk k (mem_foots.2 ⟨e, he, hm⟩)) (h.1 e he), h.2⟩

section
variable {bs : List Nat} {w0 w w' : World} {es inn : List Ent}

theorem St.perm {es' : List Ent} (h : St bs w0 w es) (hp : es.Perm es') : St bs w0 w es' :=
  ⟨h.but, fun e he => h.holds e (hp.mem_iff.2 he), (hp.pairwise_iff (fun {a b} hab k hk hk2 => hab k hk2 hk)).1 h.apart⟩

theorem erase_perm {α : Type} : ∀ (l : List α) (k : Nat) (x : α), l[k]? = some x → l.Perm (l.eraseIdx k ++ [x])
  | [], _, _, h => by simp at h
  | a :: l, 0, x, h => by
    simp at h; subst h
    exact (List.perm_append_singleton _ _).symm
  | a :: l, k + 1, x, h => by
    simp at h
    exact (erase_perm l k x h).cons a

theorem set_perm {α : Type} : ∀ (l : List α) (k : Nat) (x : α), k < l.length → (l.set k x).Perm (l.eraseIdx k ++ [x])
  | [], _, _, h => by simp at h
  | a :: l, 0, x, h => by
    exact (List.perm_append_singleton _ _).symm
  | a :: l, k + 1, x, h => by
    exact (set_perm l k x (by simpa using h)).cons a

theorem St.inBag (h : St bs w0 w es) (k : Nat) (hk : es[k]? = some (bagE inn)) : St bs w0 w (es.eraseIdx k ++ inn) := by
  have h := h.perm (erase_perm es k _ hk)
  generalize es.eraseIdx k = L at h ⊢
  obtain ⟨p1, p2, p3⟩ := List.pairwise_append.1 h.apart
  have hb := h.holds (bagE inn) (by simp)
  refine ⟨h.but, fun e he => ?_, List.pairwise_append.2 ⟨p1, hb.1.2, fun a ha b hb' q hq hq2 => p3 a ha _ (List.mem_singleton_self _) q hq (mem_foots.2 ⟨b, hb', hq2⟩)⟩⟩
  rcases List.mem_append.1 he with he | he
  · exact h.holds e (List.mem_append_left _ he)
  · exact ⟨hb.1.1 e he, fun q hq => hb.2 q (mem_foots.2 ⟨e, he, hq⟩)⟩

theorem St.outBag {k : Nat} (h : St bs w0 w (es.eraseIdx k ++ inn)) (hk : k < es.length) : St bs w0 w (es.set k (bagE inn)) := by
  refine St.perm ?_ (set_perm es k _ hk).symm
  generalize es.eraseIdx k = L at h ⊢
  obtain ⟨p1, p2, p3⟩ := List.pairwise_append.1 h.apart
  refine ⟨h.but, fun e he => ?_, List.pairwise_append.2 ⟨p1, List.pairwise_singleton _ _, fun a ha b hb q hq hq2 => ?_⟩⟩
  · rcases List.mem_append.1 he with he | he
    · exact h.holds e (List.mem_append_left _ he)
    · obtain rfl := List.mem_singleton.1 he
      refine ⟨⟨fun e he => (h.holds e (List.mem_append_right _ he)).1, p2⟩, fun q hq => ?_⟩
      obtain ⟨e, he, hq⟩ := mem_foots.1 hq
      exact (h.holds e (List.mem_append_right _ he)).2 q hq
  · obtain rfl := List.mem_singleton.1 hb
    obtain ⟨e, he, hq2⟩ := mem_foots.1 hq2
    exact p3 a ha e he q hq hq2
end

/-! ### rows of one's own in rows of one's own -/
structure OEnc (α : Type) where
  E : Enc α
  k : IntKind
  T : Nat
  row : α → List Int
  cells : Option Addr → Nat → α → List Value
  pos : 0 < E.size
  len : ∀ A c x, (cells A c x).length = E.size
  one : ∀ A c x, ∀ v ∈ cells A c x, v.oneCell' = true
  rd : ∀ {w : World} {ft : List Nat} {A : Option Addr} {c : Nat} {x : α}, (fSl (intE k) A c ((row x).map (Value.int k)) (row x)).rd w ft → E.rd w ft (cells A c x) x

section
variable {α : Type} (e : OEnc α)
def rowsB : List (Option Addr × Nat) → List α → List Ent
  | [], _ => []
  | _ :: _, [] => []
  | a :: ads, x :: xs => rowE e.k e.T a.1 a.2 (e.row x) :: rowsB ads xs
def cellsB : List (Option Addr × Nat) → List α → List Value
  | [], _ => []
  | _ :: _, [] => []
  | a :: ads, x :: xs => e.cells a.1 a.2 x ++ cellsB ads xs
/-- a row of one's own, the cells of its header, the rows in it -/
def insO (T : Nat) (A : Option Addr) (n c : Nat) (vs : List Value) (rs : List Ent) : List Ent := rowG T e.E.size (.slice A n c) n vs :: rs
def rowO (T : Nat) (A : Option Addr) (n c : Nat) (ads : List (Option Addr × Nat)) (xs : List α) : Ent where
  foot := (bagE (insO e T A n c (cellsB e ads xs) (rowsB e ads xs))).foot
  holds w := (n = xs.length ∧ ads.length = xs.length) ∧ (bagE (insO e T A n c (cellsB e ads xs) (rowsB e ads xs))).holds w
  loc w w' hk h := ⟨h.1, (bagE _).loc w w' hk h.2⟩
/-- .. of which one row has been turned, its header not yet -/
def rowX (T : Nat) (A : Option Addr) (n c : Nat) (ads : List (Option Addr × Nat)) (xs : List α) (i : Nat) (A' : Option Addr) (c' : Nat) (r : List Int) : Ent where
  foot := (bagE (insO e T A n c (cellsB e ads xs) ((rowsB e ads xs).set i (rowE e.k e.T A' c' r)))).foot
  holds w := (n = xs.length ∧ ads.length = xs.length) ∧ (bagE (insO e T A n c (cellsB e ads xs) ((rowsB e ads xs).set i (rowE e.k e.T A' c' r)))).holds w
  loc w w' hk h := ⟨h.1, (bagE _).loc w w' hk h.2⟩
end

section
variable {α : Type} {e : OEnc α} {P : Program} {bs : List Nat} {w0 w : World} {es : List Ent} {o : Oper} {ρ : Operand → Value} {T n c : Nat} {A : Option Addr} {ads : List (Option Addr × Nat)} {xs xs' : List α} {x x' : α} {a : Option Addr × Nat}

theorem rowsB_at : ∀ {ads : List (Option Addr × Nat)} {xs : List α} {i : Nat} {a : Option Addr × Nat} {x : α}, ads[i]? = some a → xs[i]? = some x → (rowsB e ads xs)[i]? = some (rowE e.k e.T a.1 a.2 (e.row x))
  | [], _, _, _, _, h, _ => by simp at h
  | _ :: _, [], _, _, _, _, h => by simp at h
  | a :: ads, x :: xs, 0, _, _, h1, h2 => by simp at h1 h2; subst h1; subst h2; rfl
  | a :: ads, x :: xs, i + 1, _, _, h1, h2 => by
    simp at h1 h2
    exact rowsB_at (i := i) h1 h2
theorem rowsB_set : ∀ {ads : List (Option Addr × Nat)} {xs : List α} {i : Nat} {a : Option Addr × Nat} {x : α}, ads.length = xs.length → (rowsB e ads xs).set i (rowE e.k e.T a.1 a.2 (e.row x)) = rowsB e (ads.set i a) (xs.set i x)
  | [], [], _, _, _, _ => rfl
  | [], _ :: _, _, _, _, h => by simp at h
  | _ :: _, [], _, _, _, h => by simp at h
  | b :: ads, y :: xs, 0, a, x, _ => rfl
  | b :: ads, y :: xs, i + 1, a, x, h => by
    show rowE _ _ _ _ _ :: (rowsB e ads xs).set i _ = _
    rw [rowsB_set (by simpa using h)]
    rfl
theorem rowsB_len : ∀ {ads : List (Option Addr × Nat)} {xs : List α}, ads.length = xs.length → (rowsB e ads xs).length = xs.length
  | [], [], _ => rfl
  | [], _ :: _, h => by simp at h
  | _ :: _, [], h => by simp at h
  | _ :: ads, _ :: xs, h => by show (rowsB e ads xs).length + 1 = xs.length + 1; rw [rowsB_len (by simpa using h)]
theorem rowsB_app : ∀ {ads ads2 : List (Option Addr × Nat)} {xs ys : List α}, ads.length = xs.length → rowsB e (ads ++ ads2) (xs ++ ys) = rowsB e ads xs ++ rowsB e ads2 ys
  | [], _, [], _, _ => rfl
  | [], _, _ :: _, _, h => by simp at h
  | _ :: _, _, [], _, h => by simp at h
  | _ :: ads, _, _ :: xs, _, h => by show _ :: rowsB e (ads ++ _) (xs ++ _) = _; rw [rowsB_app (by simpa using h)]; rfl
theorem cellsB_app : ∀ {ads ads2 : List (Option Addr × Nat)} {xs ys : List α}, ads.length = xs.length → cellsB e (ads ++ ads2) (xs ++ ys) = cellsB e ads xs ++ cellsB e ads2 ys
  | [], _, [], _, _ => rfl
  | [], _, _ :: _, _, h => by simp at h
  | _ :: _, _, [], _, h => by simp at h
  | _ :: ads, _, _ :: xs, _, h => by show _ ++ cellsB e (ads ++ _) (xs ++ _) = _; rw [cellsB_app (by simpa using h), ← List.append_assoc]; rfl
theorem cellsB_len : ∀ {ads : List (Option Addr × Nat)} {xs : List α}, ads.length = xs.length → (cellsB e ads xs).length = xs.length * e.E.size
  | [], [], _ => by simp [cellsB]
  | [], _ :: _, h => by simp at h
  | _ :: _, [], h => by simp at h
  | _ :: ads, _ :: xs, h => by show (_ ++ cellsB e ads xs).length = _; rw [List.length_append, cellsB_len (by simpa using h), e.len, List.length_cons, Nat.succ_mul]; omega
theorem cellsB_one : ∀ {ads : List (Option Addr × Nat)} {xs : List α}, ∀ v ∈ cellsB e ads xs, v.oneCell' = true
  | [], _, v, h => by cases h
  | _ :: _, [], v, h => by cases h
  | _ :: ads, _ :: xs, v, h => by
    rcases List.mem_append.1 h with h | h
    · exact e.one _ _ _ v h
    · exact cellsB_one v h
theorem cellsB_at : ∀ {ads : List (Option Addr × Nat)} {xs : List α} {i : Nat} {a : Option Addr × Nat} {x : α}, ads[i]? = some a → xs[i]? = some x → ((cellsB e ads xs).drop (i * e.E.size)).take e.E.size = e.cells a.1 a.2 x
  | [], _, _, _, _, h, _ => by simp at h
  | _ :: _, [], _, _, _, _, h => by simp at h
  | a :: ads, x :: xs, 0, _, _, h1, h2 => by
    simp at h1 h2; subst h1; subst h2
    show ((e.cells a.1 a.2 x ++ _).drop (0 * e.E.size)).take e.E.size = _
    rw [Nat.zero_mul, List.drop_zero, List.take_append_of_le_length (by rw [e.len]; exact Nat.le_refl _), List.take_of_length_le (by rw [e.len]; exact Nat.le_refl _)]
  | a :: ads, x :: xs, i + 1, _, _, h1, h2 => by
    simp at h1 h2
    show ((e.cells a.1 a.2 x ++ cellsB e ads xs).drop ((i + 1) * e.E.size)).take e.E.size = _
    rw [List.drop_append, List.drop_eq_nil_of_le (by rw [e.len, Nat.succ_mul]; omega), List.nil_append, e.len, show (i + 1) * e.E.size - e.E.size = i * e.E.size by rw [Nat.succ_mul]; omega]
    exact cellsB_at h1 h2
theorem cellsB_set : ∀ {ads : List (Option Addr × Nat)} {xs : List α} {i : Nat} {a : Option Addr × Nat} {x : α}, ads.length = xs.length → i < xs.length →
    (cellsB e ads xs).take (i * e.E.size) ++ (e.cells a.1 a.2 x ++ (cellsB e ads xs).drop ((i + 1) * e.E.size)) = cellsB e (ads.set i a) (xs.set i x)
  | [], [], _, _, _, _, h => by simp at h
  | [], _ :: _, _, _, _, h, _ => by simp at h
  | _ :: _, [], _, _, _, h, _ => by simp at h
  | b :: ads, y :: xs, 0, a, x, h, _ => by
    show ((e.cells b.1 b.2 y ++ cellsB e ads xs).take (0 * e.E.size)) ++ (e.cells a.1 a.2 x ++ (e.cells b.1 b.2 y ++ cellsB e ads xs).drop ((0 + 1) * e.E.size)) = e.cells a.1 a.2 x ++ cellsB e ads xs
    rw [Nat.zero_mul, List.take_zero, List.nil_append, Nat.zero_add, Nat.one_mul, List.drop_append_of_le_length (by rw [e.len]; exact Nat.le_refl _), List.drop_eq_nil_of_le (by rw [e.len]; exact Nat.le_refl _), List.nil_append]
  | b :: ads, y :: xs, i + 1, a, x, h, hi => by
    show ((e.cells b.1 b.2 y ++ cellsB e ads xs).take ((i + 1) * e.E.size)) ++ (e.cells a.1 a.2 x ++ (e.cells b.1 b.2 y ++ cellsB e ads xs).drop ((i + 1 + 1) * e.E.size)) = e.cells b.1 b.2 y ++ cellsB e (ads.set i a) (xs.set i x)
    rw [← cellsB_set (i := i) (by simpa using h) (by simpa using hi), List.take_append, e.len, List.take_of_length_le (by rw [e.len, Nat.succ_mul]; omega), show (i + 1) * e.E.size - e.E.size = i * e.E.size by rw [Nat.succ_mul]; omega,
      List.drop_append, e.len, List.drop_eq_nil_of_le (by rw [e.len, Nat.succ_mul (i + 1)]; rw [Nat.succ_mul]; omega), List.nil_append, show (i + 1 + 1) * e.E.size - e.E.size = (i + 1) * e.E.size by rw [Nat.succ_mul (i + 1)]; omega, List.append_assoc]

theorem set_self {β : Type} : ∀ (l : List β) (i : Nat) (x : β), l[i]? = some x → l.set i x = l
  | [], _, _, h => by simp at h
  | a :: l, 0, x, h => by simp at h; subst h; rfl
  | a :: l, i + 1, x, h => by simp at h; show a :: l.set i x = a :: l; rw [set_self l i x h]

/-- in, and out again -/
theorem St.swap {L : List Ent} {e1 : Ent} (h : St bs w0 w (L ++ [e1])) (e2 : Ent) (hf : e2.foot = e1.foot) (hh : e2.holds w) : St bs w0 w (L ++ [e2]) := by
  obtain ⟨p1, p2, p3⟩ := List.pairwise_append.1 h.apart
  refine ⟨h.but, fun q hq => ?_, List.pairwise_append.2 ⟨p1, List.pairwise_singleton _ _, fun a ha b hb => ?_⟩⟩
  · rcases List.mem_append.1 hq with hq | hq
    · exact h.holds q (List.mem_append_left _ hq)
    · obtain rfl := List.mem_singleton.1 hq
      refine ⟨hh, ?_⟩
      rw [hf]
      exact (h.holds e1 (List.mem_append_right _ (List.mem_singleton_self _))).2
  · obtain rfl := List.mem_singleton.1 hb
    rw [hf]
    exact p3 a ha e1 (List.mem_singleton_self _)
theorem erase_last {β : Type} (L : List β) (x : β) : (L ++ [x]).eraseIdx L.length = L := by
  rw [List.eraseIdx_append_of_length_le (Nat.le_refl _), Nat.sub_self]; simp
theorem St.inO (h : St bs w0 w es) (k : Nat) (hk : es[k]? = some (rowO e T A n c ads xs)) : (n = xs.length ∧ ads.length = xs.length) ∧ St bs w0 w (es.eraseIdx k ++ insO e T A n c (cellsB e ads xs) (rowsB e ads xs)) := by
  have hh := h.get k hk
  refine ⟨hh.1, ?_⟩
  have h3 := (h.perm (erase_perm es k _ hk)).swap (bagE (insO e T A n c (cellsB e ads xs) (rowsB e ads xs))) rfl hh.2
  have h4 := h3.inBag (inn := insO e T A n c (cellsB e ads xs) (rowsB e ads xs)) (es.eraseIdx k).length (by rw [List.getElem?_append_right (Nat.le_refl _), Nat.sub_self]; rfl)
  rwa [erase_last] at h4
theorem St.inX {i : Nat} {A' : Option Addr} {c' : Nat} {r : List Int} (h : St bs w0 w es) (k : Nat) (hk : es[k]? = some (rowX e T A n c ads xs i A' c' r)) : (n = xs.length ∧ ads.length = xs.length) ∧ St bs w0 w (es.eraseIdx k ++ insO e T A n c (cellsB e ads xs) ((rowsB e ads xs).set i (rowE e.k e.T A' c' r))) := by
  have hh := h.get k hk
  refine ⟨hh.1, ?_⟩
  have h3 := (h.perm (erase_perm es k _ hk)).swap (bagE (insO e T A n c (cellsB e ads xs) ((rowsB e ads xs).set i (rowE e.k e.T A' c' r)))) rfl hh.2
  have h4 := h3.inBag (inn := insO e T A n c (cellsB e ads xs) ((rowsB e ads xs).set i (rowE e.k e.T A' c' r))) (es.eraseIdx k).length (by rw [List.getElem?_append_right (Nat.le_refl _), Nat.sub_self]; rfl)
  rwa [erase_last] at h4
theorem St.outO {w' : World} {k : Nat} (h : St bs w0 w' (es.eraseIdx k ++ insO e T A n c (cellsB e ads xs) (rowsB e ads xs))) (hk : k < es.length) (hn : n = xs.length ∧ ads.length = xs.length) : St bs w0 w' (es.set k (rowO e T A n c ads xs)) := by
  have h2 := (St.outBag (es := es) h hk).perm (set_perm es k _ hk)
  exact (h2.swap (rowO e T A n c ads xs) rfl ⟨hn, (h2.holds _ (List.mem_append_right _ (List.mem_singleton_self _))).1⟩).perm (set_perm es k _ hk).symm
theorem St.outX {w' : World} {k i : Nat} {A' : Option Addr} {c' : Nat} {r : List Int} (h : St bs w0 w' (es.eraseIdx k ++ insO e T A n c (cellsB e ads xs) ((rowsB e ads xs).set i (rowE e.k e.T A' c' r)))) (hk : k < es.length) (hn : n = xs.length ∧ ads.length = xs.length) : St bs w0 w' (es.set k (rowX e T A n c ads xs i A' c' r)) := by
  have h2 := (St.outBag (es := es) h hk).perm (set_perm es k _ hk)
  exact (h2.swap (rowX e T A n c ads xs i A' c' r) rfl ⟨hn, (h2.holds _ (List.mem_append_right _ (List.mem_singleton_self _))).1⟩).perm (set_perm es k _ hk).symm

theorem St.nilO (h : St bs w0 w es) (e : OEnc α) (T : Nat) : St bs w0 w (es ++ [rowO e T none 0 0 [] []]) := by
  refine h.add (Below.refl _ w) _ ⟨⟨rfl, rfl⟩, fun q hq => ?_, List.pairwise_singleton _ _⟩ (fun k hk => ?_)
  · obtain rfl := List.mem_singleton.1 hq
    exact World.ownsRow_nil _ _ _ _
  · obtain ⟨q, hq, hk⟩ := mem_foots.1 hk
    obtain rfl := List.mem_singleton.1 hq
    simp [rowG, Value.ownBlock] at hk

theorem hdr_lies (h : (rowG T e.E.size (.slice A n c) n (cellsB e ads xs)).holds w) (hn : n = xs.length) : Lies w A (cellsB e ads xs) := rowG_lies (e := e.E) (xs := xs) hn h

/-- an element's cells -/
theorem St.elemO {i : Int} (h : St bs w0 w es) (k : Nat) (hk : es[k]? = some (rowO e T A n c ads xs)) (hi : ixg xs i = some x) :
    ∃ (g off : Nat) (a : Option Addr × Nat), (i < (n : Int) ∧ A.map (fun p => p.add (i.toNat * e.E.size)) = some ⟨g, off, none⟩) ∧ ads[i.toNat]? = some a := by
  obtain ⟨⟨hn, hl⟩, hS⟩ := h.inO k hk
  obtain ⟨h0, h1, h2⟩ := ixg_in hi
  have hlt : i.toNat < xs.length := by omega
  have hL := hdr_lies (hS.holds _ (List.mem_append_right _ (List.mem_cons_self ..))).1 hn
  have hcl := cellsB_len (e := e) hl
  have hne : cellsB e ads xs ≠ [] := by
    intro hz
    rw [hz] at hcl
    have := Nat.mul_pos (show 0 < xs.length by omega) e.pos
    simp at hcl; omega
  obtain ⟨g, off, rfl, _⟩ := hL hne
  exact ⟨g, off + i.toNat * e.E.size, ads[i.toNat]'(by omega), ⟨by rw [hn]; exact h1, by simp [add_flat]⟩, List.getElem?_eq_getElem (by omega)⟩
theorem St.rangeO {i : Int} {g off : Nat} (h : St bs w0 w es) (k : Nat) (hk : es[k]? = some (rowO e T A n c ads xs)) (hi : ixg xs i = some x) (hA : A.map (fun p => p.add (i.toNat * e.E.size)) = some ⟨g, off, none⟩) (ha : ads[i.toNat]? = some a) : w.rangeAt g off (e.cells a.1 a.2 x) := by
  obtain ⟨⟨hn, hl⟩, hS⟩ := h.inO k hk
  obtain ⟨h0, h1, h2⟩ := ixg_in hi
  have hlt : i.toNat < xs.length := by omega
  have hL := hdr_lies (hS.holds _ (List.mem_append_right _ (List.mem_cons_self ..))).1 hn
  have hcl := cellsB_len (e := e) hl
  have hne : cellsB e ads xs ≠ [] := by
    intro hz
    rw [hz] at hcl
    have := Nat.mul_pos (show 0 < xs.length by omega) e.pos
    simp at hcl; omega
  obtain ⟨g', off', rfl, hc⟩ := hL hne
  simp [add_flat] at hA
  obtain ⟨rfl, rfl⟩ := hA
  intro j v hv
  rw [← cellsB_at ha h2, List.getElem?_take] at hv
  split at hv
  · rw [List.getElem?_drop] at hv
    obtain ⟨hj, hv⟩ := List.getElem?_eq_some_iff.1 hv
    have := hc _ hj
    rw [Nat.add_assoc, this, hv]
  · cases hv
/-- an element's row -/
theorem St.viewO {i : Int} (h : St bs w0 w es) (k : Nat) (hk : es[k]? = some (rowO e T A n c ads xs)) (hi : ixg xs i = some x) (ha : ads[i.toNat]? = some a) : NumZ e.k w (.slice a.1 (e.row x).length a.2) (e.row x) ∧ (a.1 = none → a.2 = 0) := by
  obtain ⟨_, hS⟩ := h.inO k hk
  obtain ⟨h0, h1, h2⟩ := ixg_in hi
  exact rowE_read (hS.holds _ (List.mem_append_right _ (List.mem_cons_of_mem _ (List.mem_of_getElem? (rowsB_at ha h2))))).1

theorem ins_at (L : List Ent) (e1 : Ent) (rs : List Ent) : (L ++ e1 :: rs)[L.length]? = some e1 := by simp
theorem ins_at2 (L : List Ent) (e1 : Ent) (rs : List Ent) (i : Nat) : (L ++ e1 :: rs)[L.length + 1 + i]? = rs[i]? := by
  rw [List.getElem?_append_right (by omega), show L.length + 1 + i - L.length = i + 1 by omega, List.getElem?_cons_succ]
theorem ins_set (L : List Ent) (e1 e2 : Ent) (rs : List Ent) : (L ++ e1 :: rs).set L.length e2 = L ++ e2 :: rs := by
  rw [List.set_append_right _ _ (Nat.le_refl _), Nat.sub_self]; rfl
theorem ins_set2 (L : List Ent) (e1 e2 : Ent) (rs : List Ent) (i : Nat) : (L ++ e1 :: rs).set (L.length + 1 + i) e2 = L ++ e1 :: rs.set i e2 := by
  rw [List.set_append_right _ _ (by omega), show L.length + 1 + i - L.length = i + 1 by omega]; rfl

/-- append to an element's row -/
theorem st_appO {TS : Nat} {s y : Operand} {A2 : Option Addr} {c2 : Nat} {l2 r : List Int} {i : Int}
    (ho : o.op = .call { callee := .builtin .append, args := #[s, y], argTypes := #[TS, TS] }) (hsv : ρ s = .slice a.1 (e.row x).length a.2) (hxv : ρ y = .slice A2 l2.length c2)
    (h : St bs w0 w es) (k : Nat) (hk : es[k]? = some (rowO e T A n c ads xs)) (hi : ixg xs i = some x) (ha : ads[i.toNat]? = some a) (hsrc : NumZ e.k w (.slice A2 l2.length c2) l2) (hnn : A2 = none → c2 = 0) (hap : apx (e.row x) l2 = some r)
    (hT : P.underlying TS = some (.slice e.T)) (hz : infoOk P e.T = true) :
    ∃ v w', (execOp ρ o).run P w = .ok (.value v) w' ∧ ∃ A' c', v = .slice A' r.length c' ∧ St bs w0 w' (es.set k (rowX e T A n c ads xs i.toNat A' c' r)) := by
  have hkl := (List.getElem?_eq_some_iff.1 hk).1
  obtain ⟨hn, hS⟩ := h.inO k hk
  obtain ⟨h0, h1, h2⟩ := ixg_in hi
  obtain ⟨hl, rfl⟩ := apx_in hap
  obtain ⟨v, w', hr, A', c', hv, hS'⟩ := st_append ho hsv hxv hS ((es.eraseIdx k).length + 1 + i.toNat) (by unfold insO; rw [ins_at2]; exact rowsB_at ha h2) hsrc hnn hl hT hz
  refine ⟨v, w', hr, A', c', hv, St.outX ?_ hkl hn⟩
  unfold insO at hS' ⊢
  rw [ins_set2] at hS'
  exact hS'

/-- the header told of it -/
theorem st_setX {TS g off : Nat} {p y : Operand} {v : Value} {i : Int} {A' : Option Addr} {c' : Nat} {r : List Int} (j : Nat) (ho : o.op = .store TS p y) (hx : ρ p = .pointer (some ⟨g, off + j, none⟩)) (hy : ρ y = v) (hv : v.oneCell' = true) (hs : ∀ w, (Go.sizeOf TS).run P w = .ok 1 w)
    (h : St bs w0 w es) (k : Nat) (hk : es[k]? = some (rowX e T A n c ads xs i.toNat A' c' r)) (hi : ixg xs i = some x) (ha : ads[i.toNat]? = some a) (hA : A.map (fun p => p.add (i.toNat * e.E.size)) = some ⟨g, off, none⟩) (hj : j < e.E.size)
    (hcell : (e.cells a.1 a.2 x).set j v = e.cells A' c' x') (hrow : e.row x' = r) (hset : setg xs i x' = some xs') :
    ∃ w', (execOp ρ o).run P w = .ok .skip w' ∧ St bs w0 w' (es.set k (rowO e T A n c (ads.set i.toNat (A', c')) xs')) := by
  have hkl := (List.getElem?_eq_some_iff.1 hk).1
  obtain ⟨hn, hS⟩ := h.inX k hk
  obtain ⟨h0, h1, h2⟩ := ixg_in hi
  obtain ⟨_, _, rfl⟩ := setg_in hset
  have hlt : i.toNat < xs.length := by omega
  obtain ⟨w', hr, hS'⟩ := st_storeN1 j ho hx hy hv hs hS (es.eraseIdx k).length (by unfold insO; rw [ins_at]) hA (cellsB_at ha h2).symm hj (by rw [hn.1]; exact hlt)
  refine ⟨w', hr, St.outO ?_ hkl ⟨by rw [List.length_set]; exact hn.1, by rw [List.length_set, List.length_set]; exact hn.2⟩⟩
  unfold insO at hS' ⊢
  rw [ins_set, hcell, cellsB_set (a := (A', c')) hn.2 hlt, ← hrow, rowsB_set (a := (A', c')) hn.2] at hS'
  exact hS'

/-- another cell of an element -/
theorem st_setO {TS g off : Nat} {p y : Operand} {v : Value} {i : Int} (j : Nat) (ho : o.op = .store TS p y) (hx : ρ p = .pointer (some ⟨g, off + j, none⟩)) (hy : ρ y = v) (hv : v.oneCell' = true) (hs : ∀ w, (Go.sizeOf TS).run P w = .ok 1 w)
    (h : St bs w0 w es) (k : Nat) (hk : es[k]? = some (rowO e T A n c ads xs)) (hi : ixg xs i = some x) (ha : ads[i.toNat]? = some a) (hA : A.map (fun p => p.add (i.toNat * e.E.size)) = some ⟨g, off, none⟩) (hj : j < e.E.size)
    (hcell : (e.cells a.1 a.2 x).set j v = e.cells a.1 a.2 x') (hrow : e.row x' = e.row x) (hset : setg xs i x' = some xs') :
    ∃ w', (execOp ρ o).run P w = .ok .skip w' ∧ St bs w0 w' (es.set k (rowO e T A n c ads xs')) := by
  have hkl := (List.getElem?_eq_some_iff.1 hk).1
  obtain ⟨hn, hS⟩ := h.inO k hk
  obtain ⟨h0, h1, h2⟩ := ixg_in hi
  obtain ⟨_, _, rfl⟩ := setg_in hset
  have hlt : i.toNat < xs.length := by omega
  obtain ⟨w', hr, hS'⟩ := st_storeN1 j ho hx hy hv hs hS (es.eraseIdx k).length (by unfold insO; rw [ins_at]) hA (cellsB_at ha h2).symm hj (by rw [hn.1]; exact hlt)
  refine ⟨w', hr, St.outO ?_ hkl ⟨by rw [List.length_set]; exact hn.1, by rw [List.length_set]; exact hn.2⟩⟩
  have hrs : rowsB e ads xs = rowsB e ads (xs.set i.toNat x') := by
    have h3 := rowsB_set (e := e) (ads := ads) (xs := xs) (i := i.toNat) (a := a) (x := x') hn.2
    rw [set_self ads _ _ ha] at h3
    rw [← h3, hrow]
    exact (set_self _ _ _ (rowsB_at ha h2)).symm
  unfold insO at hS' ⊢
  rw [ins_set, hcell, cellsB_set (a := a) hn.2 hlt, set_self ads _ _ ha, hrs] at hS'
  exact hS'

/-- a number in an element's row -/
theorem st_ixO {TS : Nat} {p y : Operand} {i q v : Int} {l' : List Int} (ho : o.op = .store TS p y) (hx : ρ p = .pointer (a.1.map fun p => p.add (q.toNat * 1))) (hy : ρ y = .int e.k v) (hs : ∀ w, (Go.sizeOf TS).run P w = .ok 1 w)
    (h : St bs w0 w es) (k : Nat) (hk : es[k]? = some (rowO e T A n c ads xs)) (hi : ixg xs i = some x) (ha : ads[i.toNat]? = some a) (hq : setx (e.row x) q v = some l') (hcell : e.cells a.1 a.2 x' = e.cells a.1 a.2 x) (hrow : e.row x' = l') (hset : setg xs i x' = some xs') :
    ∃ w', (execOp ρ o).run P w = .ok .skip w' ∧ St bs w0 w' (es.set k (rowO e T A n c ads xs')) := by
  have hkl := (List.getElem?_eq_some_iff.1 hk).1
  obtain ⟨hn, hS⟩ := h.inO k hk
  obtain ⟨h0, h1, h2⟩ := ixg_in hi
  obtain ⟨_, _, rfl⟩ := setg_in hset
  have hlt : i.toNat < xs.length := by omega
  obtain ⟨w', hr, hS'⟩ := st_storeix ho hx hy hs hS ((es.eraseIdx k).length + 1 + i.toNat) (by unfold insO; rw [ins_at2]; exact rowsB_at ha h2) hq
  refine ⟨w', hr, St.outO ?_ hkl ⟨by rw [List.length_set]; exact hn.1, by rw [List.length_set]; exact hn.2⟩⟩
  have hcs : cellsB e ads xs = cellsB e ads (xs.set i.toNat x') := by
    have h3 := cellsB_set (e := e) (ads := ads) (xs := xs) (i := i.toNat) (a := a) (x := x') hn.2 hlt
    have h4 := cellsB_set (e := e) (ads := ads) (xs := xs) (i := i.toNat) (a := a) (x := x) hn.2 hlt
    rw [set_self ads _ _ ha] at h3 h4
    rw [set_self xs _ _ h2] at h4
    rw [← h3, hcell, h4]
  have hrs := rowsB_set (e := e) (ads := ads) (xs := xs) (i := i.toNat) (a := a) (x := x') hn.2
  rw [set_self ads _ _ ha, hrow] at hrs
  unfold insO at hS' ⊢
  rw [ins_set2, hrs, hcs] at hS'
  exact hS'

/-- elements more, whose rows are nil -/
theorem st_appOO {TS n2 c2 : Nat} {s y : Operand} {A2 : Option Addr} {vs2 : List Value} {ys r : List α} (ads2 : List (Option Addr × Nat))
    (ho : o.op = .call { callee := .builtin .append, args := #[s, y], argTypes := #[TS, TS] }) (hsv : ρ s = .slice A n c) (hxv : ρ y = .slice A2 n2 c2)
    (h : St bs w0 w es) (k : Nat) (hk : es[k]? = some (rowO e T A n c ads xs)) (hn2 : n2 = ys.length) (hl2 : ads2.length = ys.length) (hvs : vs2 = cellsB e ads2 ys) (hnil : ∀ q ∈ rowsB e ads2 ys, q = rowE e.k e.T none 0 []) (hL : Lies w A2 vs2) (hnn : A2 = none → c2 = 0) (hap : apg xs ys = some r)
    (hT : P.underlying TS = some (.slice T)) (hz : infoN P T e.E.size = true) :
    ∃ v w', (execOp ρ o).run P w = .ok (.value v) w' ∧ ∃ A' c', v = .slice A' r.length c' ∧ St bs w0 w' (es.set k (rowO e T A' r.length c' (ads ++ ads2) r)) := by
  have hkl := (List.getElem?_eq_some_iff.1 hk).1
  obtain ⟨hn, hS⟩ := h.inO k hk
  obtain ⟨hl, rfl⟩ := apg_in hap
  subst hvs
  obtain ⟨v, w', hr, A', c', hv, hS'⟩ := st_appendN ho hsv hxv hS (es.eraseIdx k).length (by unfold insO; rw [ins_at]) (by rw [cellsB_len hl2, hn2]) hL (fun v hv => cellsB_one v hv) hnn (by rw [hn.1, hn2]; exact hl) hT hz e.pos
  have hnl : n + n2 = (xs ++ ys).length := by rw [List.length_append, hn.1, hn2]
  refine ⟨v, w', hr, A', c', by rw [hv, hnl], St.outO ?_ hkl ⟨rfl, by rw [List.length_append, List.length_append, hn.2, hl2]⟩⟩
  unfold insO at hS' ⊢
  rw [ins_set, hnl, ← cellsB_app hn.2] at hS'
  rw [rowsB_app hn.2]
  -- the rows that are nil
  have add : ∀ (rs : List Ent), (∀ q ∈ rs, q = rowE e.k e.T none 0 []) → ∀ (L : List Ent), St bs w0 w' L → St bs w0 w' (L ++ rs) := by
    intro rs
    induction rs with
    | nil => intro _ L hL; rwa [List.append_nil]
    | cons q rs ih =>
      intro hq L hL
      have h1 := hL.nilrow e.k e.T
      rw [← hq q (List.mem_cons_self ..)] at h1
      have := ih (fun z hz => hq z (List.mem_cons_of_mem _ hz)) _ h1
      rwa [List.append_assoc] at this
  have := add _ hnil _ hS'
  rw [List.append_assoc] at this
  exact this

/-- what it stands for, while its blocks stay -/
theorem each_O {w : World} {ft : List Nat} : ∀ {ads : List (Option Addr × Nat)} {xs : List α}, ads.length = xs.length → (∀ q ∈ rowsB e ads xs, q.holds w) → (∀ k ∈ foots (rowsB e ads xs), k ∈ ft) → Each e.E w ft (cellsB e ads xs) xs
  | [], [], _, _, _ => rfl
  | [], _ :: _, h, _, _ => by simp at h
  | _ :: _, [], h, _, _ => by simp at h
  | a :: ads, x :: xs, h, hq, hf => by
    have h1 := rowE_sl (e.row x |> fun _ => ([] : List Nat)) (hq _ (List.mem_cons_self ..))
    refine ⟨_, _, rfl, e.rd ((fSl _ _ _ _ _).mono (fun k hk => hf k ?_) h1), each_O (by simpa using h) (fun q hm => hq q (List.mem_cons_of_mem _ hm)) (fun k hk => hf k ?_)⟩
    · rw [List.append_nil] at hk
      exact mem_foots.2 ⟨_, List.mem_cons_self .., hk⟩
    · obtain ⟨q, hm, hk⟩ := mem_foots.1 hk
      exact mem_foots.2 ⟨q, List.mem_cons_of_mem _ hm, hk⟩

theorem St.slO (h : St bs w0 w es) (k : Nat) (hk : es[k]? = some (rowO e T A n c ads xs)) : (fSl e.E A c (cellsB e ads xs) xs).rd w ((rowO e T A n c ads xs).foot ++ []) := by
  obtain ⟨hn, hS⟩ := h.inO k hk
  have h1 := (hS.holds _ (List.mem_append_right _ (List.mem_cons_self ..))).1
  have hE : Each e.E w (foots (rowsB e ads xs)) (cellsB e ads xs) xs := each_O hn.2 (fun q hq => (hS.holds q (List.mem_append_right _ (List.mem_cons_of_mem _ hq))).1) (fun _ hk => hk)
  refine (fSl e.E A c _ xs).mono (fun q hq => ?_) (rowG_sl (e := e.E) (T := T) hn.1 h1 hE)
  rw [List.append_nil]
  rcases List.mem_append.1 hq with hq | hq
  · exact mem_foots.2 ⟨_, List.mem_cons_self .., hq⟩
  · obtain ⟨z, hz, hq⟩ := mem_foots.1 hq
    exact mem_foots.2 ⟨z, List.mem_cons_of_mem _ hz, hq⟩
theorem St.relenO {m : Nat} (h : St bs w0 w es) (k : Nat) (hk : es[k]? = some (rowO e T A n c ads xs)) (hm : n = m) : St bs w0 w (es.set k (rowO e T A m c ads xs)) := by
  subst hm
  rw [set_self es k _ hk]; exact h
theorem St.lenO (h : St bs w0 w es) (k : Nat) (hk : es[k]? = some (rowO e T A n c ads xs)) : n = xs.length := (h.get k hk).1.1

/-- its rows go to what is finished -/
theorem St.freezeO {ft : List Nat} {W : World} (h : St bs w0 w es) (k j : Nat) (hk : es[k]? = some (rowO e T A n c ads xs)) (hj : es[j]? = some (poolE ft W)) (hne : k ≠ j) :
    ∃ ft' W', St bs w0 w ((es.set j (poolE ft' W')).set k (rowG T e.E.size (.slice A n c) n (cellsB e ads xs))) ∧ Turn bs w0 W ft W' ft' ∧ (fEach e.E (cellsB e ads xs) xs).rd W' ft' ∧ n = xs.length := by
  have hkl := (List.getElem?_eq_some_iff.1 hk).1
  obtain ⟨hn, hS⟩ := h.inO k hk
  -- the header in its place, the rows behind all, in one
  have hp : (es.eraseIdx k ++ insO e T A n c (cellsB e ads xs) (rowsB e ads xs)).Perm (es.set k (rowG T e.E.size (.slice A n c) n (cellsB e ads xs)) ++ rowsB e ads xs) := by
    have := (set_perm es k (rowG T e.E.size (.slice A n c) n (cellsB e ads xs)) hkl).symm.append_right (rowsB e ads xs)
    rwa [List.append_assoc] at this
  have h2 := hS.perm hp
  have hE : Each e.E w (foots (rowsB e ads xs)) (cellsB e ads xs) xs := each_O hn.2 (fun q hq => (h2.holds q (List.mem_append_right _ hq)).1) (fun _ hk => hk)
  have h3 : St bs w0 w (es.set k (rowG T e.E.size (.slice A n c) n (cellsB e ads xs)) ++ [bagE (rowsB e ads xs)]) := by
    have := St.outBag (es := es.set k (rowG T e.E.size (.slice A n c) n (cellsB e ads xs)) ++ [bagE []]) (k := (es.set k (rowG T e.E.size (.slice A n c) n (cellsB e ads xs))).length) (inn := rowsB e ads xs) (w := w) (w0 := w0) (bs := bs) (by
      rw [List.eraseIdx_append_of_length_le (Nat.le_refl _)]; simpa using h2) (by simp)
    rwa [List.set_append_right _ _ (Nat.le_refl _), Nat.sub_self] at this
  have hL : (es.set k (rowG T e.E.size (.slice A n c) n (cellsB e ads xs))).length = es.length := by simp
  have hjl := (List.getElem?_eq_some_iff.1 hj).1
  have hj3 : (es.set k (rowG T e.E.size (.slice A n c) n (cellsB e ads xs)) ++ [bagE (rowsB e ads xs)])[j]? = some (poolE ft W) := by
    rw [List.getElem?_append_left (by omega), List.getElem?_set, if_neg hne]; exact hj
  obtain ⟨h4, h5⟩ := h3.freeze es.length j (by rw [List.getElem?_append_right (by omega), hL, Nat.sub_self]; rfl) hj3 (by omega)
  refine ⟨(bagE (rowsB e ads xs)).foot ++ ft, w, ?_, h3.turnTo j hj3 _ (fun q hq => List.mem_append_right _ hq), Each.mono (fun q hq => List.mem_append_left _ hq) hE, hn.1⟩
  have e4 : ((es.set k (rowG T e.E.size (.slice A n c) n (cellsB e ads xs)) ++ [bagE (rowsB e ads xs)]).set j (poolE ((bagE (rowsB e ads xs)).foot ++ ft) w)).eraseIdx es.length = (es.set j (poolE ((bagE (rowsB e ads xs)).foot ++ ft) w)).set k (rowG T e.E.size (.slice A n c) n (cellsB e ads xs)) := by
    rw [List.set_append_left _ _ (by omega), List.eraseIdx_append_of_length_le (by simp), List.set_comm _ _ hne]
    simp
  rw [← e4]
  exact h4
end
/-! short forms -/
section
variable {P : Program} {ro : Option Nat} {n : Nat} {ops : Array Oper} {Q : Exit → Act → World → Prop} {a : Act} {w : World} {S : World → Prop} {fuel : Nat} {listed : Array Bool} {op : Op} {ty : TypeId} {ps : String} {af : Array Edge} {gu : Option (Nat × Bool)}
theorem gu1 (i d : Nat) (v : Value) (hi : ops[i]? = some { dst := some d, op := op, type := ty, pos := ps, after := af, guard := gu }) (hS : S w)
    (hy : ∀ w, S w → (execOp a.eval { dst := some d, op := op, type := ty, pos := ps, after := af, guard := gu }).run P w = .ok (.value v) w)
    (h : WD ro n P ops Q S fuel (listed.setIfInBounds i true) (a.put (some d) v) w)
    (hQ : ∀ c a w, Q (.panic c) (a.put (some d) v) w → Q (.panic c) a w := by exact fun _ _ _ h => h)
    (hc : (ops.all plainOp && (Region.noSelect ops && (Region.free .any ops listed i && ((Region.ready .any ops listed).contains i && Region.wanted { dst := some d, op := op, type := ty, pos := ps, after := af, guard := gu } (yielded ops a.tmps))))) = true := by as_aux_lemma => kernel_rfl) :
    WD ro n P ops Q S (fuel + 1) listed a w := gd1 i _ v hi hS hy h hQ hc
theorem gv1 (i d : Nat) (v : Value) (hi : ops[i]? = some { dst := some d, op := op, type := ty, pos := ps, after := af, guard := gu }) (hS : S w)
    (h : WD ro n P ops Q S fuel (listed.setIfInBounds i true) (a.put (some d) v) w)
    (hy : ∀ w, S w → (execOp a.eval { dst := some d, op := op, type := ty, pos := ps, after := af, guard := gu }).run P w = .ok (.value v) w := by exact fun _ _ => by as_aux_lemma => kernel_rfl)
    (hQ : ∀ c a w, Q (.panic c) (a.put (some d) v) w → Q (.panic c) a w := by exact fun _ _ _ h => h)
    (hc : (ops.all plainOp && (Region.noSelect ops && (Region.free .any ops listed i && ((Region.ready .any ops listed).contains i && Region.wanted { dst := some d, op := op, type := ty, pos := ps, after := af, guard := gu } (yielded ops a.tmps))))) = true := by as_aux_lemma => kernel_rfl) :
    WD ro n P ops Q S (fuel + 1) listed a w := gd1 i _ v hi hS hy h hQ hc
theorem gz1 (i d : Nat) (hi : ops[i]? = some { dst := some d, op := op, type := ty, pos := ps, after := af, guard := gu }) (hS : S w)
    (h : WD ro n P ops Q S fuel (listed.setIfInBounds i true) (a.put (some d) undef) w)
    (hQ : ∀ c a w, Q (.panic c) (a.put (some d) undef) w → Q (.panic c) a w := by exact fun _ _ _ h => h)
    (hc : (ops.all plainOp && (Region.noSelect ops && (Region.free .any ops listed i && ((Region.ready .any ops listed).contains i && !Region.wanted { dst := some d, op := op, type := ty, pos := ps, after := af, guard := gu } (yielded ops a.tmps))))) = true := by as_aux_lemma => kernel_rfl) :
    WD ro n P ops Q S (fuel + 1) listed a w := gd0 i _ hi hS h hQ hc
end

abbrev nS : Value := .slice none 0 0
abbrev pI (i : Int) (A : Option Addr) : Value := .pointer (Option.map (fun (p : Addr) => p.add (Int.toNat i * 1)) A)
abbrev vP (g : Nat) : Value := .pointer (some ⟨g, 0, none⟩)
abbrev vQ (g j : Nat) : Value := .pointer (some ⟨g, j, none⟩)
abbrev i6 (x : Int) : Value := .int .i64 x
abbrev u6 (x : Int) : Value := .int .u16 x
abbrev iw (x : Int) : Int := IntKind.i64.wrap x
abbrev fz (n : Nat) : Array Bool := (List.replicate n false).toArray
section
variable {P : Program} {w : World} {ρ : Operand → Value} {o : Oper}
theorem rl1 {T : Nat} {x : Operand} {p : Addr} {v : Value} (hc : w.cell? p = some v) (ho : o.op = .load T x := by rfl) (hx : ρ x = .pointer (some p) := by as_aux_lemma => kernel_rfl) (hT : ∀ w, (isAgg T).run P w = .ok false w := by exact fun _ => by as_aux_lemma => kernel_rfl) :
    (execOp ρ o).run P w = .ok (.value v) w := run_load1 ho hx hT hc
theorem rlx {T : Nat} {x : Operand} {A : Option Addr} {c : Nat} {k : IntKind} {l : List Int} {i v : Int} (hv : NumZ k w (.slice A l.length c) l) (hi : ix l i = some v) (ho : o.op = .load T x := by rfl) (hx : ρ x = .pointer (A.map fun p => p.add (i.toNat * 1)) := by as_aux_lemma => kernel_rfl) (hT : ∀ w, (isAgg T).run P w = .ok false w := by exact fun _ => by as_aux_lemma => kernel_rfl) : (execOp ρ o).run P w = .ok (.value (.int k v)) w := run_loadix ho hx hT hv hi
theorem rbE {v0 v : Bool} (hb : v0 = v) (hr : (execOp ρ o).run P w = .ok (.value (.bool v0)) w := by as_aux_lemma => kernel_rfl) : (execOp ρ o).run P w = .ok (.value (.bool v)) w := run_boolE hb hr
theorem rbT {S : World → Prop} {p : Prop} [Decidable p] (h : p) (hr : ∀ w, (execOp ρ o).run P w = .ok (.value (.bool (decide p))) w := by exact fun _ => by as_aux_lemma => kernel_rfl) : ∀ w, S w → (execOp ρ o).run P w = .ok (.value (.bool true)) w := fun w _ => run_boolE (decide_eq_true h) (hr w)
theorem rbF {S : World → Prop} {p : Prop} [Decidable p] (h : ¬p) (hr : ∀ w, (execOp ρ o).run P w = .ok (.value (.bool (decide p))) w := by exact fun _ => by as_aux_lemma => kernel_rfl) : ∀ w, S w → (execOp ρ o).run P w = .ok (.value (.bool false)) w := fun w _ => run_boolE (decide_eq_false h) (hr w)
theorem rix (E : Nat) (k : IntKind) {T : Nat} {x y : Operand} {A : Option Addr} {c : Nat} {l : List Int} {i v : Int} {k' : IntKind} {w' : World} (hx : ix l i = some v) (hn : NumZ k' w' (.slice A l.length c) l) (ho : o.op = .indexAddr T x y := by rfl)
    (h1 : ρ x = .slice A l.length c := by as_aux_lemma => kernel_rfl) (h2 : ρ y = .int k i := by as_aux_lemma => kernel_rfl) (hT : P.underlying T = some (.slice E) := by as_aux_lemma => kernel_rfl) (hs : ∀ w, (Go.sizeOf E).run P w = .ok 1 w := by exact fun _ => by as_aux_lemma => kernel_rfl) :
    (execOp ρ o).run P w = .ok (.value (.pointer (A.map fun p => p.add (i.toNat * 1)))) w := run_ixaddr ho h1 h2 hT hs (ix_in hx).1 (ix_in hx).2.1 (num_nil hn)
theorem riy (E : Nat) (k : IntKind) {T : Nat} {x y : Operand} {A : Option Addr} {n c : Nat} {l : List Int} {i v : Int} {k' : IntKind} {w' : World} (hx : ix l i = some v) (he : n = l.length) (hn : NumZ k' w' (.slice A l.length c) l) (ho : o.op = .indexAddr T x y := by rfl)
    (h1 : ρ x = .slice A n c := by as_aux_lemma => kernel_rfl) (h2 : ρ y = .int k i := by as_aux_lemma => kernel_rfl) (hT : P.underlying T = some (.slice E) := by as_aux_lemma => kernel_rfl) (hs : ∀ w, (Go.sizeOf E).run P w = .ok 1 w := by exact fun _ => by as_aux_lemma => kernel_rfl) :
    (execOp ρ o).run P w = .ok (.value (.pointer (A.map fun p => p.add (i.toNat * 1)))) w := run_ixaddr ho h1 h2 hT hs (ix_in hx).1 (lt_len he (ix_in hx).2.1) (nil_len he (num_nil hn))
theorem sj {α : Type} {a b : α} (h : some a = some b) : a = b := Option.some.inj h
end
section
variable {P : Program} {ro : Option Nat} {n : Nat} {Q : Exit → Act → World → Prop} {a : Act} {w : World}
theorem gxF {fn : Func} {R : Ending → World → Prop} (v : Value) (h : R (.returned v) w) (hd : a.defers = [] := by as_aux_lemma => kernel_rfl) (hr : (results fn a.tmps).run P w = .ok v w := by as_aux_lemma => kernel_rfl) : WQ (bodyPost P fn R) .ret a w := gx_fin v hd hr h
theorem gdst {id : Nat} {l : List Oper} (S : World → Prop) (m : Nat) (h : WD ro n P l.toArray Q S m (fz m) a w.drew) (hf : (l.toArray.size, Array.replicate l.toArray.size false) = (m, fz m) := by as_aux_lemma => kernel_rfl) (hm : P.follows .mixedOrders = true := by as_aux_lemma => kernel_rfl) :
    WC ro n P (Code.region id l.toArray true) Q a w := gd_start S m (fz m) hf hm h
end
theorem selfX {F : (Nat → Value) → Act} {a : Act} (h : a = F fun i => a.tmps.getD i undef := by as_aux_lemma => kernel_rfl) : selfA F a := h

end Go.Proofs.YtbdhgjaoojimmaaDoor
