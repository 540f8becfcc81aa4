/-
  The breaks' classes and widths, as contracts.
-/
import Derived.Test.YtdbimchiecdkoaaGreatGv
import Derived.Laws.RangeAny
import Derived.Lib.OthersKept
import Derived.Test.YtdbimchiecdkoaaGreatEq
namespace Go.Proofs.YtdbimchiecdkoaaGreat
open Go Go.RowKit Go.Lib
set_option linter.unusedVariables false
def ucBk (_N : Nat) (r : Int) : Option Int := some (breakC r)
def ucBk_R (r : Int) (w0 : World) (v : Value) (w : World) : Prop := v = .int .u8 r ∧ St [] w0 w []
theorem ucBk_ok (N : Nat) (p0 : Int) (r : Int) (hF : ucBk N p0 = some r) (w0 : World) :
    Calls Tryz.prog 88 #[.int .i32 p0] w0 fun e w => ∃ v, e = .returned v ∧ ucBk_R r w0 v w := by
  refine (break_any p0 w0).mono ?_
  rintro e w ⟨rfl, rfl⟩
  obtain rfl := Option.some.inj hF
  exact ⟨_, rfl, rfl, St.start _⟩
def ucWd (_N : Nat) (r : Int) : Option Bool := some (anyL E0 wideL r)
def ucWd_R (r : Bool) (w0 : World) (v : Value) (w : World) : Prop := v = .bool r ∧ St [] w0 w []
theorem ucWd_ok (N : Nat) (p0 : Int) (r : Bool) (hF : ucWd N p0 = some r) (w0 : World) :
    Calls Tryz.prog 97 #[.int .i32 p0] w0 fun e w => ∃ v, e = .returned v ∧ ucWd_R r w0 v w := by
  refine (wide_any p0 w0).mono ?_
  rintro e w ⟨rfl, rfl⟩
  obtain rfl := Option.some.inj hF
  exact ⟨_, rfl, rfl, St.start _⟩
def i32b (r : Int) : Bool := decide (-2147483648 ≤ r) && decide (r < 2147483648)
def rfBk (_N : Nat) (r : Int) : Option Int := if i32b r = true then some (breakC r) else none
def rfBk_R (r : Int) (w0 : World) (v : Value) (w : World) : Prop := v = .int .u8 r ∧ St [] w0 w []
theorem rfBk_ok (N : Nat) (p0 : Int) (r : Int) (hF : rfBk N p0 = some r) (w0 : World) :
    Calls Tryz.prog 11 #[.int .i32 p0] w0 fun e w => ∃ v, e = .returned v ∧ rfBk_R r w0 v w := by
  unfold rfBk at hF
  split at hF
  · rename_i hr
    have hI : I32 p0 := by unfold i32b at hr; rw [Bool.and_eq_true, decide_eq_true_eq, decide_eq_true_eq] at hr; unfold I32; omega
    refine (refBreak_is _ tabBreaks p0 hI w0).mono ?_
    rintro e w ⟨rfl, hb⟩
    obtain rfl := Option.some.inj hF
    exact ⟨_, rfl, by rw [break_eq], (St.start _).stay hb⟩
  · cases hF
def rfWd (_N : Nat) (r : Int) : Option Bool := some (anyL E0 wideL r)
def rfWd_R (r : Bool) (w0 : World) (v : Value) (w : World) : Prop := v = .bool r ∧ St [] w0 w []
theorem rfWd_ok (N : Nat) (p0 : Int) (r : Bool) (hF : rfWd N p0 = some r) (w0 : World) :
    Calls Tryz.prog 69 #[.int .i32 p0] w0 fun e w => ∃ v, e = .returned v ∧ rfWd_R r w0 v w := by
  refine (refWide_is _ tabWides p0 w0).mono ?_
  rintro e w ⟨rfl, hb⟩
  obtain rfl := Option.some.inj hF
  exact ⟨_, rfl, by rw [wide_eq], (St.start _).stay hb⟩
def Left (s : ByteArray) : Nat → List Int → Prop
  | p, [] => ¬ p < s.size
  | p, x :: l => p < s.size ∧ x = Int.ofNat (Utf8.decode s p).1 ∧ Left s (p + (Utf8.decode s p).2) l
theorem decode_pos (s : ByteArray) (p : Nat) (h : p < s.size) : 1 ≤ (Utf8.decode s p).2 := by
  rcases Nat.lt_or_ge (s[p]'h).toNat 128 with h1 | h1
  · rw [decode_ascii s p h h1]; exact Nat.le_refl _
  · exact (decode_high s p h h1).2
theorem left_runes (s : ByteArray) : ∀ (b p : Nat), s.size ≤ p + b → Left s p (runesL s b p)
  | 0, p, h => by unfold runesL Left; omega
  | b + 1, p, h => by
    unfold runesL
    by_cases hp : p < s.size
    · rw [if_pos hp]
      have := decode_pos s p hp
      exact ⟨hp, rfl, left_runes s b _ (by omega)⟩
    · rw [if_neg hp]; exact hp
def itE (g : Nat) (l : List Int) : Ent where
  foot := [g]
  holds w := ∃ s p, w.heap[g]? = some (.stringIter s p) ∧ Left s p l
  loc w w' hk h := by obtain ⟨s, p, h1, h2⟩ := h; exact ⟨s, p, by rw [hk g (by simp)]; exact h1, h2⟩
section
variable {P : Program} {ρ : Operand → Value} {o : Oper} {bs : List Nat} {w0 w : World} {es : List Ent}
theorem st_range {T : Nat} {x : Operand} {s : ByteArray} (ho : o.op = .range T x) (hx : ρ x = .string s) (hT : P.underlying T = some .string) (h : St bs w0 w es) :
    ∃ v w', (execOp ρ o).run P w = .ok (.value v) w' ∧ (v = .pointer (some ⟨w.heap.size, 0, none⟩) ∧ St bs w0 w' (es ++ [itE w.heap.size (runesL s s.size 0)])) := by
  refine ⟨.pointer (some ⟨w.heap.size, 0, none⟩), w.alloc (.stringIter s 0), ?_, rfl, ?_⟩
  · unfold execOp
    rw [ho]
    simp only [hx, Sem.run_bind, run_range_string w T s hT, Result.andThen_ok, Sem.run_pure]
    rfl
  · refine h.add ((Below.refl _ w).alloc (Nat.le_refl _) _) _ ⟨s, 0, World.iter_heap w s 0, left_runes s s.size 0 (by omega)⟩ (fun k hk => ?_)
    simp only [itE, List.mem_singleton] at hk
    subst hk
    exact ⟨Nat.le_refl _, by simp⟩
theorem st_next {g : Nat} {x : Operand} {c : Int} {l : List Int} (ho : o.op = .next x true) (hx : ρ x = .pointer (some ⟨g, 0, none⟩)) (h : St bs w0 w es) (i : Nat) (hi : es[i]? = some (itE g (c :: l))) :
    ∃ v w', (execOp ρ o).run P w = .ok (.value v) w' ∧ (∃ q : Int, v = .tuple #[.bool true, .int .i64 q, .int .i32 c] ∧ St bs w0 w' (es.set i (itE g l))) := by
  obtain ⟨s, p, h1, h2, h3, h4⟩ := h.get i hi
  have hr := run_next_any_at (P := P) w g s p o.type h1 h2
  subst h3
  refine ⟨.tuple #[.bool true, .int .i64 (p : Nat), .int .i32 (Utf8.decode s p).1], w.iterAt g s (p + (Utf8.decode s p).2), ?_, (p : Nat), rfl, ?_⟩
  · unfold execOp
    rw [ho]
    simp only [hx, Sem.run_bind, hr, Result.andThen_ok, Sem.run_pure]
  · refine h.turn (w' := w.iterAt g s (p + (Utf8.decode s p).2)) i hi ⟨rfl, rfl, rfl⟩ (by simp [World.iterAt]) (fun q _ hne => ?_) (itE g l) ⟨s, _, iterAt_heap w g s p _ h1, h4⟩ (fun q hq => .inl hq)
    have : g ≠ q := fun e => hne (by simp [itE, e])
    simp [World.iterAt, this]
theorem run_nextend {g : Nat} {x : Operand} (ho : o.op = .next x true) (hx : ρ x = .pointer (some ⟨g, 0, none⟩)) (h : (itE g []).holds w) :
    (execOp ρ o).run P w = .ok (.value (.tuple #[.bool false])) w := by
  obtain ⟨s, p, h1, h2⟩ := h
  have hr := run_next_end_at (P := P) w g s p o.type h1 h2
  unfold execOp
  rw [ho]
  simp only [hx, Sem.run_bind, hr, Result.andThen_ok, Sem.run_pure]
end
abbrev plE (g : Nat) (A : Option Addr) (c : Nat) (B : Option Addr) (d : Nat) (l s : List Int) (o p q n m j k : Int) (x y z : Bool) : Ent := boxE g [.slice A l.length c, .slice B s.length d, .int .i64 o, .int .i64 p, .int .i64 q, .int .i64 n, .int .i64 m, .int .i64 j, .int .i64 k, .bool x, .bool y, .bool z] 42
end Go.Proofs.YtdbimchiecdkoaaGreat
