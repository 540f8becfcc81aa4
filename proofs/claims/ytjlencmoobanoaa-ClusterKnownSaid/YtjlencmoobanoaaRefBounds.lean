/-
  The document's Bounds.
-/
import Derived.Test.YtjlencmoobanoaaRefParted
import Derived.Test.YtjlencmoobanoaaBnd
namespace Go.Proofs.Ytjlencmoobanoaa
open Go Go.RowKit

/-- the places so far -/
def docTo (C : List Nat) (i : Nat) : List Nat := (List.range i).filter fun k => decide (k = 0) || docPre (C.take k).reverse (C.getD k 0)

theorem docTo_next (C : List Nat) (i : Nat) : docTo C (i + 1) = docTo C i ++ (if (decide (i = 0) || docPre (C.take i).reverse (C.getD i 0)) = true then [i] else []) := by
  unfold docTo
  rw [List.range_succ, List.filter_append, List.filter_cons]
  simp

def DocRel (W : World) (C : List Nat) (N k : Nat) (vs vi : Value) (wr : World) : Prop :=
  ∃ i : Nat, i + k = N ∧ vi = .int .i64 (i : Int) ∧ OwnI W.heap.size wr vs (docTo C i) ∧ Below W.heap.size W wr

theorem docTo_len (C : List Nat) (i : Nat) : (docTo C i).length ≤ i := by
  have := List.length_filter_le (fun k => decide (k = 0) || docPre (C.take k).reverse (C.getD k 0)) (List.range i)
  simpa [docTo] using this

theorem own_stays {w w' : World} {B : Nat} {v : Value} {xs : List Nat} (h : OwnI B w v xs) (hb : Below w.heap.size w w') : OwnI B w' v xs := by
  have h1 : w.ownsRow B 3 1 v xs.length (xs.map fun d : Nat => Value.int .i64 (d : Int)) := h
  refine ⟨h1.1, ?_⟩
  rcases h1.2 with h2 | ⟨g, cap, cur, e, hB, hg, rest⟩
  · exact .inl h2
  · exact .inr ⟨g, cap, cur, e, hB, by rw [hb.block g (own_row_lt hg)]; exact hg, rest⟩

theorem own_cases {B : Nat} {w : World} {v : Value} {ds : List Nat} (h : OwnI B w v ds) : (∃ A cap, v = .slice A ds.length cap) ∧ ∀ k, v.ownBlock = some k → B ≤ k := by
  have h1 : w.ownsRow B 3 1 v ds.length (ds.map fun d : Nat => Value.int .i64 (d : Int)) := h
  rcases h1.2 with ⟨rfl, h0⟩ | ⟨g, cap, cur, rfl, hb, hg, rest⟩
  · exact ⟨⟨none, 0, by rw [h0]⟩, fun k hk => by simp [Value.ownBlock] at hk⟩
  · exact ⟨⟨_, cap, rfl⟩, fun k hk => by simp [Value.ownBlock] at hk; omega⟩

set_option maxHeartbeats 4000000 in
set_option maxRecDepth 20000 in
theorem refBounds_any (T : List (Int × Int × Int)) (hT : TabC T) (l : List Int) (hl : AllR l) (v : Value) (w : World) (hv : RunesZ w v l) (hlen : l.length ≤ 1000000) :
    Calls Try.prog 9 #[v] w fun e w' => Below w.heap.size w w' ∧ ∃ r, e = .returned r ∧ OwnI w.heap.size w' r (docBounds (clsL T l)) := by
  obtain ⟨i0, hi0I, hz0I, hs0I, hb0I⟩ : ∃ i0, Try.prog.info? 3 = some i0 ∧ i0.zero = some (.int .i64 0) ∧ i0.size = 1 ∧ i0.bytes = 8 := by
    have := infoInt
    cases hq : Try.prog.info? 3 with
    | none => rw [hq] at this; cases this
    | some i0 =>
      rw [hq] at this
      simp only [Option.map_some, Option.some.injEq, Prod.mk.injEq] at this
      exact ⟨i0, rfl, this.1, this.2.1, this.2.2⟩
  obtain ⟨A, cap, rfl, hcap, hcap2, hx⟩ := hv
  obtain ⟨N, hN⟩ : ∃ N, N = l.length := ⟨_, rfl⟩
  have HN := Lib.hid hN
  obtain ⟨C, hC⟩ : ∃ C, C = clsL T l := ⟨_, rfl⟩
  have HC := Lib.hid hC
  rw [← hN, ← hC]
  rw [← hN] at hcap hlen
  have HR : Hid (docBounds C = docTo C N) := Lib.hid (by unfold docBounds docTo; rw [hC, clsL, List.length_map, ← hN])
  have HX := Lib.hid hx
  have HT := Lib.hid hT
  have HL := Lib.hid hl
  have hNI : (N : Int) ≤ 1000000 := by omega
  clear hx hN hC hT hl
  go_enter Try.func9, Try.ntmps9
  go_wp2_with fail
  go_loopg [3, 4] N (fun k vs vi wr => DocRel w C N k vs vi wr)
  case atStart => exact ⟨0, by omega, rfl, OwnI.nil _ _, Below.refl _ _⟩
  case round =>
    obtain ⟨i, hik, rfl, how, hbw⟩ := hrel
    obtain ⟨⟨A3, cap3, rfl⟩, hge⟩ := own_cases how
    have HOW := Lib.hid how
    have HB := Lib.hid hbw
    have HGE := Lib.hid hge
    have hal := docTo_len C i
    clear how hbw hge
    rcases Nat.eq_zero_or_pos gk with h0 | h0
    · obtain rfl : i = N := by omega
      go_wp2_with fail
      go_ret
      exact ⟨HB.out, _, rfl, by rw [HR.out]; exact HOW.out⟩
    · have hiN : i < N := by omega
      have hiI : (i : Int) < (N : Int) := by omega
      have hi0 : (0 : Int) ≤ (i : Int) := Int.natCast_nonneg _
      have hnx := docTo_next C i
      obtain ⟨D, hD⟩ : ∃ D, D = docTo C i := ⟨_, rfl⟩
      rw [← hD] at hnx hal HOW HGE
      rw [← hD]
      have hNE : l ≠ [] := by rintro rfl; have := HN.out; simp at this; omega
      obtain ⟨g0, off, rfl, hg0, hcell⟩ := HX.out hNE
      by_cases hi : i = 0
      · have b0 : ((i : Int) == 0) = true := by simp; omega
        have HNX : Hid (docTo C (i + 1) = D ++ [i]) := Lib.hid (by rw [hnx]; simp [hi])
        have HOWQ := HOW
        have HBQ := HB
        have hnew5 := one_newI (w := wr) (x := .int .i64 (i : Int)) (t := 3)
        clear hnx hi hD
        go_wp2_with (at_builtin; refine wpList_append_own_at (P := Try.prog) _ rfl _ _ 24 rfl w.heap.size 3 i0 (.int .i64 0) 1 8 Try.underlying24 hi0I hz0I hs0I hb0I rfl (by decide) _ D.length _ rfl (own_stays HOWQ.out ((Below.refl _ _).alloc (Nat.le_refl _) _)) ⟨wr.heap.size, 0, none⟩ 1 1 [.int .i64 (i : Int)] rfl rfl hnew5 (fun u hu => by obtain rfl := List.mem_singleton.1 hu; rfl) (by unfold maxLen; omega) (by omega) (Nat.le_trans HBQ.out.size (Nat.le_of_lt (heap_more _ _))) ?_)
        intro v' w6 hown' hgrow _ _
        have hb6 : Below w.heap.size w w6 := (HBQ.out.alloc HBQ.out.size _).grown hgrow (Nat.le_trans HBQ.out.size (Nat.le_of_lt (heap_more _ _))) (fun k hk => HGE.out k (by rw [hk]))
        have how6 : OwnI w.heap.size w6 v' (docTo C (i + 1)) := by rw [HNX.out]; unfold OwnI; rw [List.length_append, List.map_append]; exact hown'
        have HOW6 := Lib.hid how6
        have HB6 := Lib.hid hb6
        clear hown' hgrow hb6 how6 hnew5
        go_wp2
        go_roundg (gk - 1)
        case measure => omega
        case rel => exact ⟨i + 1, by omega, by first | rfl | exact congrArg _ (by omega), HOW6.out, HB6.out⟩
      · have b0 : ((i : Int) == 0) = false := by simp; omega
        have hp := refParted_in T HT.out l HL.out _ g0 off cap N HN.out rfl wr (fun j h => cellsAt_below (by have := hcell j h; exact this) HB.out) i hiN (by omega) hlen
        rw [← HC.out] at hp
        obtain ⟨q, hq⟩ : ∃ q, q = docPre (C.take i).reverse (C.getD i 0) := ⟨_, rfl⟩
        rw [← hq] at hp hnx
        have hi' : decide (i = 0) = false := by simp [hi]
        rw [hi', Bool.false_or] at hnx
        have HNQ := Lib.hid hnx
        have HPQ := Lib.hid hp
        clear hp hnx hq hi' hi hD hcell
        cases q with
        | false =>
          have HNX : Hid (docTo C (i + 1) = D) := Lib.hid (by rw [HNQ.out]; simp)
          go_wp2_with fail
          refine (HPQ.out).mono ?_
          rintro e w5 ⟨rfl, hb5⟩
          have HB5 := Lib.hid (HB.out.trans (hb5.mono HB.out.size))
          have how5 := own_stays HOW.out hb5
          rw [← HNX.out] at how5
          have hDl : D.length = (docTo C (i + 1)).length := by rw [HNX.out]
          have HOW5 := Lib.hid how5
          clear hb5 how5
          go_wp2_with fail
          go_roundg (gk - 1)
          case measure => omega
          case rel => exact ⟨i + 1, by omega, by first | rfl | exact congrArg _ (by omega), HOW5.out, HB5.out⟩
        | true =>
          have HNX : Hid (docTo C (i + 1) = D ++ [i]) := Lib.hid (by rw [HNQ.out]; simp)
          go_wp2_with fail
          refine (HPQ.out).mono ?_
          rintro e w5 ⟨rfl, hb5⟩
          have HBQ := Lib.hid (HB.out.trans (hb5.mono HB.out.size))
          have HOWQ := Lib.hid (own_stays HOW.out hb5)
          have hnew5 := one_newI (w := w5) (x := .int .i64 (i : Int)) (t := 3)
          clear hb5
          go_wp2_with (at_builtin; refine wpList_append_own_at (P := Try.prog) _ rfl _ _ 24 rfl w.heap.size 3 i0 (.int .i64 0) 1 8 Try.underlying24 hi0I hz0I hs0I hb0I rfl (by decide) _ D.length _ rfl (own_stays HOWQ.out ((Below.refl _ _).alloc (Nat.le_refl _) _)) ⟨w5.heap.size, 0, none⟩ 1 1 [.int .i64 (i : Int)] rfl rfl hnew5 (fun u hu => by obtain rfl := List.mem_singleton.1 hu; rfl) (by unfold maxLen; omega) (by omega) (Nat.le_trans HBQ.out.size (Nat.le_of_lt (heap_more _ _))) ?_)
          intro v' w6 hown' hgrow _ _
          have hb6 : Below w.heap.size w w6 := (HBQ.out.alloc HBQ.out.size _).grown hgrow (Nat.le_trans HBQ.out.size (Nat.le_of_lt (heap_more _ _))) (fun k hk => HGE.out k (by rw [hk]))
          have how6 : OwnI w.heap.size w6 v' (docTo C (i + 1)) := by rw [HNX.out]; unfold OwnI; rw [List.length_append, List.map_append]; exact hown'
          have HOW6 := Lib.hid how6
          have HB6 := Lib.hid hb6
          clear hown' hgrow hb6 how6 hnew5
          go_wp2
          go_roundg (gk - 1)
          case measure => omega
          case rel => exact ⟨i + 1, by omega, by first | rfl | exact congrArg _ (by omega), HOW6.out, HB6.out⟩
end Go.Proofs.Ytjlencmoobanoaa
