/-
  Pieces of rows of one's own that are handed on to be turned; rows made with room; jumps back.
-/
import Derived.Test.YtkcmemldhbifdaaDoorGt
namespace Go.Proofs.YtkcmemldhbifdaaDoor
open Go Go.RowKit
set_option linter.unusedVariables false
def pceE (k : IntKind) (T : Nat) (A : Option Addr) (c : Nat) (pre post l : List Int) : Ent := rowE k T A c (pre ++ l ++ post)
def putx (L : List Int) (lo hi : Int) (l : List Int) : Option (List Int) := some (L.take lo.toNat ++ l ++ L.drop hi.toNat)
theorem putx_in {L L2 l : List Int} {lo hi : Int} (h : putx L lo hi l = some L2) : L2 = L.take lo.toNat ++ l ++ L.drop hi.toNat := (Option.some.inj h).symm
section
variable {P : Program} {bs : List Nat} {w0 w : World} {es : List Ent} {o : Oper} {ρ : Operand → Value} {k : IntKind} {T : Nat} {A B : Option Addr} {c d : Nat} {pre post l L : List Int} {lo hi : Int}
theorem cut_split (h : cutx L lo hi = some l) : L = L.take lo.toNat ++ l ++ L.drop hi.toNat := by
  obtain ⟨h0, h1, h2, rfl⟩ := cutx_in h
  have e : (L.take hi.toNat).take lo.toNat = L.take lo.toNat := by rw [List.take_take]; congr 1; omega
  rw [← e, List.take_append_drop, List.take_append_drop]
theorem pce_of (h : cutx L lo hi = some l) : rowE k T A c L = pceE k T A c (L.take lo.toNat) (L.drop hi.toNat) l := by
  unfold pceE
  rw [← cut_split h]
theorem pce_to {l2 L2 : List Int} (h : putx L lo hi l2 = some L2) : pceE k T A c (L.take lo.toNat) (L.drop hi.toNat) l2 = rowE k T A c L2 := by
  rw [putx_in h]; rfl
theorem putx_len {l2 L2 : List Int} (h : cutx L lo hi = some l) (hl : l2.length = l.length) (hp : putx L lo hi l2 = some L2) : L2.length = L.length := by
  rw [putx_in hp]
  have := congrArg List.length (cut_split h)
  simp only [List.length_append] at this ⊢
  omega
theorem St.asE {e e' : Ent} (h : St bs w0 w es) (i : Nat) (hi : es[i]? = some e) (he : e = e') : St bs w0 w (es.set i e') := by
  subst he
  rw [show es.set i e = es from by
    apply List.ext_getElem?
    intro j
    rw [List.getElem?_set]
    split
    · rename_i hj; subst hj; split
      · exact hi.symm
      · rename_i hlt; rw [List.getElem?_eq_none (by omega)]
    · rfl]
  exact h
def PceAt (A : Option Addr) (c : Nat) (pre l : List Int) (B : Option Addr) (d : Nat) : Prop := sliced A pre.length (pre.length + l.length) c 1 = .slice B l.length d
theorem pce_at (h : cutx L lo hi = some l) (hA : sliced A lo.toNat hi.toNat c 1 = .slice B l.length d) : PceAt A c (L.take lo.toNat) l B d := by
  have hl := cutx_len h
  obtain ⟨h0, h1, h2, _⟩ := cutx_in h
  unfold PceAt
  have e1 : (L.take lo.toNat).length = lo.toNat := by rw [List.length_take]; omega
  rw [e1, show lo.toNat + l.length = hi.toNat by omega]
  exact hA
theorem PceAt.keep {l2 : List Int} (h : PceAt A c pre l B d) (hl : l2.length = l.length) : PceAt A c pre l2 B d := by
  unfold PceAt at *
  rw [hl]; exact h
theorem pce_cut : cutx (pre ++ l ++ post) (pre.length : Int) ((pre.length + l.length : Nat) : Int) = some l := by
  unfold cutx
  rw [if_pos ⟨by omega, by omega, by simp only [List.length_append]; omega⟩, Int.toNat_natCast, Int.toNat_natCast]
  rw [List.take_append_of_le_length (by simp only [List.length_append]; omega), List.take_of_length_le (by simp only [List.length_append]; omega), List.drop_left]
theorem pce_read (h : (pceE k T A c pre post l).holds w) (hs : PceAt A c pre l B d) : NumZ k w (.slice B l.length d) l ∧ (B = none → d = 0) := by
  obtain ⟨h1, h2⟩ := rowE_read (w := w) (k := k) (T := T) (A := A) (c := c) (l := pre ++ l ++ post) h
  have hs2 : sliced A ((pre.length : Int)).toNat (((pre.length + l.length : Nat) : Int)).toNat c 1 = .slice B l.length d := by
    rw [Int.toNat_natCast, Int.toNat_natCast]; exact hs
  exact ⟨num_cut h1 pce_cut hs2, cut_nn h2 hs2⟩
theorem St.pce (h : St bs w0 w es) (i : Nat) (hi : es[i]? = some (pceE k T A c pre post l)) (hs : PceAt A c pre l B d) : NumZ k w (.slice B l.length d) l ∧ (B = none → d = 0) := pce_read (h.get i hi) hs
theorem st_storepc {TS : Nat} {x y : Operand} {l' : List Int} {i v : Int} (ho : o.op = .store TS x y) (hx : ρ x = .pointer (B.map fun p => p.add (i.toNat * 1))) (hy : ρ y = .int k v) (hs : ∀ w, (Go.sizeOf TS).run P w = .ok 1 w)
    (hat : PceAt A c pre l B d) (h : St bs w0 w es) (m : Nat) (hm : es[m]? = some (pceE k T A c pre post l)) (hi : setx l i v = some l') :
    ∃ w', (execOp ρ o).run P w = .ok .skip w' ∧ St bs w0 w' (es.set m (pceE k T A c pre post l')) := by
  obtain ⟨h0, h1, rfl⟩ := setx_in hi
  have hrow : w.ownsRow 0 T 1 (.slice A (pre ++ l ++ post).length c) (pre ++ l ++ post).length ((pre ++ l ++ post).map (Value.int k)) := h.get m hm
  have hlen : (pre ++ l ++ post).length = pre.length + l.length + post.length := by simp only [List.length_append]
  have hset : setx (pre ++ l ++ post) ((pre.length : Int) + i) v = some (pre ++ l.set i.toNat v ++ post) := by
    unfold setx
    rw [if_pos ⟨by omega, by rw [hlen]; omega⟩]
    have e : ((pre.length : Int) + i).toNat = pre.length + i.toNat := by omega
    rw [e, List.append_assoc, List.set_append_right _ _ (by omega), Nat.add_sub_cancel_left, List.set_append_left _ _ (by omega), List.append_assoc]
  refine st_storeix (i := (pre.length : Int) + i) ho ?_ hy hs h m hm hset
  rw [hx]
  have hat' := hat
  unfold PceAt sliced at hat'
  injection hat' with s1 s2 s3
  rcases hrow.2 with ⟨_, h2⟩ | ⟨g, cap, cur, e, hb, hg, hc, hmx, hcs, ht⟩
  · omega
  · injection e with e1 e2 e3
    subst e1; subst e3
    rw [if_neg (by omega)] at s1
    rw [← s1]
    show Value.pointer (some (((⟨g, 0, none⟩ : Addr).add (pre.length * 1)).add (i.toNat * 1))) = Value.pointer (some ((⟨g, 0, none⟩ : Addr).add ((((pre.length : Int) + i).toNat) * 1)))
    rw [add_flat, add_flat, add_flat]
    congr 3
    omega
end
end Go.Proofs.YtkcmemldhbifdaaDoor
