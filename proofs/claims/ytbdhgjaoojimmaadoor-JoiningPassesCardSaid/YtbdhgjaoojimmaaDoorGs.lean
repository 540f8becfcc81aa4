/-
  Pieces of rows of one's own that are handed on to be turned; rows made with room; jumps back.
-/
import Derived.Test.YtbdhgjaoojimmaaDoorGt
namespace Go.Proofs.YtbdhgjaoojimmaaDoor
open Go Go.RowKit
set_option linter.unusedVariables false

/-! ### a piece of a row of one's own -/
/-- a row of which a piece is told -/
def pceE (k : IntKind) (T : Nat) (A : Option Addr) (c : Nat) (pre post l : List Int) : Ent := rowE k T A c (pre ++ l ++ post)

/-- a list with another piece -/
def putx (L : List Int) (lo hi : Int) (l : List Int) : Option (List Int) := some (L.take lo.toNat ++ l ++ L.drop hi.toNat)

theorem putx_in {L L2 l : List Int} {lo hi : Int} (h : putx L lo hi l = some L2) : L2 = L.take lo.toNat ++ l ++ L.drop hi.toNat := (Option.some.inj h).symm

section
variable {P : Program} {bs : List Nat} {w0 w : World} {es : List Ent} {o : Oper} {ρ : Operand → Value} {k : IntKind} {T : Nat} {A B : Option Addr} {c d : Nat} {pre post l L : List Int} {lo hi : Int}

theorem cut_split (h : cutx L lo hi = some l) : L = L.take lo.toNat ++ l ++ L.drop hi.toNat := by
  obtain ⟨h0, h1, h2, rfl⟩ := cutx_in h
  have e : (L.take hi.toNat).take lo.toNat = L.take lo.toNat := by rw [List.take_take]; congr 1; omega
  rw [← e, List.take_append_drop, List.take_append_drop]

theorem pce_of (h : cutx L lo hi = some l) : rowE k T A c L = pceE k T A c (L.take lo.toNat) (L.drop hi.toNat) l := by
  unfold pceE
  rw [← cut_split h]

theorem pce_to {l2 L2 : List Int} (h : putx L lo hi l2 = some L2) : pceE k T A c (L.take lo.toNat) (L.drop hi.toNat) l2 = rowE k T A c L2 := by
  rw [putx_in h]; rfl

theorem putx_len {l2 L2 : List Int} (h : cutx L lo hi = some l) (hl : l2.length = l.length) (hp : putx L lo hi l2 = some L2) : L2.length = L.length := by
  rw [putx_in hp]
  have := congrArg List.length (cut_split h)
  simp only [List.length_append] at this ⊢
  omega

theorem St.asE {e e' : Ent} (h : St bs w0 w es) (i : Nat) (hi : es[i]? = some e) (he : e = e') : St bs w0 w (es.set i e') := by
  subst he
  rw [show es.set i e = es from by
    apply List.ext_getElem?
    intro j
    rw [List.getElem?_set]
    split
    · rename_i hj; subst hj; split
      · exact hi.symm
      · rename_i hlt; rw [List.getElem?_eq_none (by omega)]
    · rfl]
  exact h

/-- where a piece lies -/
def PceAt (A : Option Addr) (c : Nat) (pre l : List Int) (B : Option Addr) (d : Nat) : Prop := sliced A pre.length (pre.length + l.length) c 1 = .slice B l.length d

theorem pce_at (h : cutx L lo hi = some l) (hA : sliced A lo.toNat hi.toNat c 1 = .slice B l.length d) : PceAt A c (L.take lo.toNat) l B d := by
  have hl := cutx_len h
  obtain ⟨h0, h1, h2, _⟩ := cutx_in h
  unfold PceAt
  have e1 : (L.take lo.toNat).length = lo.toNat := by rw [List.length_take]; omega
  rw [e1, show lo.toNat + l.length = hi.toNat by omega]
  exact hA

theorem PceAt.keep {l2 : List Int} (h : PceAt A c pre l B d) (hl : l2.length = l.length) : PceAt A c pre l2 B d := by
  unfold PceAt at *
  rw [hl]; exact h

theorem pce_cut : cutx (pre ++ l ++ post) (pre.length : Int) ((pre.length + l.length : Nat) : Int) = some l := by
  unfold cutx
  rw [if_pos ⟨by omega, by omega, by simp only [List.length_append]; omega⟩, Int.toNat_natCast, Int.toNat_natCast]
  rw [List.take_append_of_le_length (by simp only [List.length_append]; omega), List.take_of_length_le (by simp only [List.length_append]; omega), List.drop_left]

theorem pce_read (h : (pceE k T A c pre post l).holds w) (hs : PceAt A c pre l B d) : NumZ k w (.slice B l.length d) l ∧ (B = none → d = 0) := by
  obtain ⟨h1, h2⟩ := rowE_read (w := w) (k := k) (T := T) (A := A) (c := c) (l := pre ++ l ++ post) h
  have hs2 : sliced A ((pre.length : Int)).toNat (((pre.length + l.length : Nat) : Int)).toNat c 1 = .slice B l.length d := by
    rw [Int.toNat_natCast, Int.toNat_natCast]; exact hs
  exact ⟨num_cut h1 pce_cut hs2, cut_nn h2 hs2⟩

theorem St.pce (h : St bs w0 w es) (i : Nat) (hi : es[i]? = some (pceE k T A c pre post l)) (hs : PceAt A c pre l B d) : NumZ k w (.slice B l.length d) l ∧ (B = none → d = 0) := pce_read (h.get i hi) hs

/-- the piece of nothing ahead and behind is the row -/
theorem pce_all (l : List Int) : rowE k T A c l = pceE k T A c [] [] l := by unfold pceE; simp
theorem pce_at0 (l : List Int) : PceAt A c [] l A c := by
  unfold PceAt sliced
  simp only [List.length_nil, Nat.zero_add, Nat.sub_zero, Nat.zero_mul]
  split
  · rfl
  · cases A <;> rfl

/-- a store into a piece -/
theorem st_storepc {TS : Nat} {x y : Operand} {l' : List Int} {i v : Int} (ho : o.op = .store TS x y) (hx : ρ x = .pointer (B.map fun p => p.add (i.toNat * 1))) (hy : ρ y = .int k v) (hs : ∀ w, (Go.sizeOf TS).run P w = .ok 1 w)
    (hat : PceAt A c pre l B d) (h : St bs w0 w es) (m : Nat) (hm : es[m]? = some (pceE k T A c pre post l)) (hi : setx l i v = some l') :
    ∃ w', (execOp ρ o).run P w = .ok .skip w' ∧ St bs w0 w' (es.set m (pceE k T A c pre post l')) := by
  obtain ⟨h0, h1, rfl⟩ := setx_in hi
  have hrow : w.ownsRow 0 T 1 (.slice A (pre ++ l ++ post).length c) (pre ++ l ++ post).length ((pre ++ l ++ post).map (Value.int k)) := h.get m hm
  have hlen : (pre ++ l ++ post).length = pre.length + l.length + post.length := by simp only [List.length_append]
  have hset : setx (pre ++ l ++ post) ((pre.length : Int) + i) v = some (pre ++ l.set i.toNat v ++ post) := by
    unfold setx
    rw [if_pos ⟨by omega, by rw [hlen]; omega⟩]
    have e : ((pre.length : Int) + i).toNat = pre.length + i.toNat := by omega
    rw [e, List.append_assoc, List.set_append_right _ _ (by omega), Nat.add_sub_cancel_left, List.set_append_left _ _ (by omega), List.append_assoc]
  refine st_storeix (i := (pre.length : Int) + i) ho ?_ hy hs h m hm hset
  rw [hx]
  have hat' := hat
  unfold PceAt sliced at hat'
  injection hat' with s1 s2 s3
  rcases hrow.2 with ⟨_, h2⟩ | ⟨g, cap, cur, e, hb, hg, hc, hmx, hcs, ht⟩
  · omega
  · injection e with e1 e2 e3
    subst e1; subst e3
    rw [if_neg (by omega)] at s1
    rw [← s1]
    show Value.pointer (some (((⟨g, 0, none⟩ : Addr).add (pre.length * 1)).add (i.toNat * 1))) = Value.pointer (some ((⟨g, 0, none⟩ : Addr).add ((((pre.length : Int) + i).toNat) * 1)))
    rw [add_flat, add_flat, add_flat]
    congr 3
    omega

/-- make([]T, 0, n) -/
theorem st_makeC {k1 k2 : IntKind} {TS sz : Nat} {x y : Operand} {n : Int} {by_ : Nat} {z : Value} (ho : o.op = .makeSlice TS x y) (hx : ρ x = .int k1 0) (hy : ρ y = .int k2 n) (hT : P.underlying TS = some (.slice T))
    (hinfo : (P.info? T).map (fun i => (i.zero, i.size, i.bytes)) = some (some z, sz, by_)) (hby : (decide (by_ ≤ 100)) = true) (h : St bs w0 w es) (hn : 0 ≤ n ∧ n ≤ 1000000000) :
    ∃ v w', (execOp ρ o).run P w = .ok (.value v) w' ∧ ∃ A' c', v = .slice A' 0 c' ∧ St bs w0 w' (es ++ [rowG T sz (.slice A' 0 c') 0 []]) := by
  obtain ⟨m, rfl⟩ : ∃ m : Nat, n = (m : Int) := ⟨n.toNat, by omega⟩
  obtain ⟨i, hi, hzz⟩ := Option.map_eq_some_iff.1 hinfo
  simp only [Prod.mk.injEq] at hzz
  obtain ⟨hz, hsz, hb⟩ := hzz
  have hb2 := of_decide_eq_true hby
  have hbm : by_ * m ≤ 100 * 1000000000 := Nat.mul_le_mul hb2 (by omega)
  obtain ⟨w', hr, hown, hg⟩ := run_make_own (P := P) w 0 TS T i z sz hT hi hz hsz k1 k2 m (by rw [hb]; omega) (by unfold maxLen; omega) (Nat.zero_le _)
  refine ⟨_, w', ?_, some ⟨w.heap.size, 0, none⟩, m, rfl, ?_⟩
  · unfold execOp
    rw [ho]
    simp only [hx, hy, Sem.run_bind, hr, Result.andThen_ok, Sem.run_pure]
  · refine h.add ⟨hg.os, hg.tape, hg.output, hg.size, fun j hj => hg.block j hj (by simp)⟩ _ hown (fun j hj => ?_)
    simp [rowG, Value.ownBlock] at hj
    subst hj
    rcases hown.2 with ⟨e, _⟩ | ⟨g, cap, cur, e, _, hgg, _⟩
    · cases e
    · injection e with e1
      injection e1 with e1
      injection e1 with e1
      subst e1
      exact ⟨Nat.le_refl _, own_row_lt hgg⟩

/-- no row yet, with room for so many -/
def mk0 (n : Int) : Option Unit := if 0 ≤ n ∧ n ≤ 1000000000 then some () else none
theorem mk0_in {n : Int} {u : Unit} (h : mk0 n = some u) : 0 ≤ n ∧ n ≤ 1000000000 := by
  unfold mk0 at h
  split at h
  · assumption
  · cases h
end

/-! ### jumps back -/
section
variable {P : Program} {n : Nat} {Q : Exit → Act → World → Prop} {a : Act} {w : World}

def Good (n : Nat) (P : Program) (l : Nat) (y : Code) (Q : Exit → Act → World → Prop) (I : Nat → Act → World → Prop) : Prop :=
  ∀ k a w, I k a w → WC none n P y (Exit.jump l (fun a' w' => ∃ k', k' < k ∧ I k' a' w') Q) a w
/-- a state from which the label's code goes on, by some count that goes down -/
def JB (n : Nat) (P : Program) (l : Nat) (y : Code) (Q : Exit → Act → World → Prop) (a : Act) (w : World) : Prop :=
  ∃ k, ∃ I : Nat → Act → World → Prop, I k a w ∧ Good n P l y Q I

theorem gx_scopeB {c y : Code} (l : Nat) (hf : findLabel c l = some (Code.seq Code.skip y)) (h : WC none n P c (Exit.jump l (JB n P l y Q) Q) a w) : WC none n P (Code.scope c) Q a w := by
  refine ⟨(wpIn_wide (n := n)).2 (wp_scope_jumps l (JB n P l y Q) (fun a w => Classical.epsilon fun k => (∃ I : Nat → Act → World → Prop, I k a w ∧ Good n P l y Q I) ∧ ∀ j, (∃ I : Nat → Act → World → Prop, I j a w ∧ Good n P l y Q I) → k ≤ j) hf ((wpIn_wide (n := n)).1 h.out) fun a w hJ => (wpIn_wide (n := n)).1 ?_)⟩
  have hk := Classical.epsilon_spec (least_of hJ)
  obtain ⟨⟨I, hI, hG⟩, hmin⟩ := hk
  refine WC.out (gx_seq fun K hK => gx_pass ⟨hK _ _ ⟨wpIn_mono (hG _ a w hI).out fun e a' w' he => ?_⟩⟩)
  cases e with
  | goto l' =>
    obtain ⟨rfl, k', hlt, hI'⟩ := he
    have hJ' : JB n P l' y Q a' w' := ⟨k', I, hI', hG⟩
    have hk' := Classical.epsilon_spec (least_of hJ')
    exact ⟨rfl, hJ', Nat.lt_of_le_of_lt (hk'.2 k' ⟨I, hI', hG⟩) hlt⟩
  | _ => exact he

/-- at the label -/
theorem gx_here {y : Code} {l : Nat} (I : Nat → Act → World → Prop) (k0 : Nat) (h0 : I k0 a w) (round : ∀ k a w, I k a w → WC none n P y (Exit.jump l (fun a' w' => ∃ k', k' < k ∧ I k' a' w') Q) a w) :
    WC none n P (Code.seq (Code.label l) y) (Exit.jump l (JB n P l y Q) Q) a w := by
  refine gx_seq fun K hK => gx_label ⟨hK _ _ ⟨wpIn_mono (round k0 a w h0).out fun e a' w' he => ?_⟩⟩
  cases e with
  | goto l' =>
    obtain ⟨rfl, k', _, hI'⟩ := he
    exact ⟨rfl, k', I, hI', round⟩
  | _ => exact he
end
end Go.Proofs.YtbdhgjaoojimmaaDoor
