/-
  The pairs, sorted by their opening brackets: by lists.
-/
import Derived.Test.YtdfgecndbfmgnaaDoorSo
import Derived.Shelf.SlSortCmp.NoneTotal
namespace Go.Proofs.YtdfgecndbfmgnaaDoor
open Go Go.RowKit
set_option linter.unusedVariables false
set_option linter.unusedSimpArgs false

def insP (x : Int × Int) : List (Int × Int) → List (Int × Int)
  | [] => [x]
  | y :: t => if x.1 < y.1 then x :: y :: t else y :: insP x t
def srtP : List (Int × Int) → List (Int × Int)
  | [] => []
  | x :: t => insP x (srtP t)
def apartP : List (Int × Int) → Bool
  | [] => true
  | x :: t => t.all (fun y => x.1 != y.1) && apartP t
def kSort (_N : Nat) (l : List (Int × Int)) : Option (List (Int × Int)) := if l.length ≤ 1000000000 ∧ apartP l = true then some (srtP l) else none

theorem insP_perm (x : Int × Int) : ∀ l, (insP x l).Perm (x :: l)
  | [] => .refl _
  | y :: t => by
    rw [insP]
    split
    · exact .refl _
    · exact ((insP_perm x t).cons y).trans (.swap ..)
theorem srtP_perm : ∀ l, (srtP l).Perm l
  | [] => .refl _
  | x :: t => (insP_perm x _).trans ((srtP_perm t).cons x)
theorem insP_lt (x : Int × Int) : ∀ l : List (Int × Int), l.Pairwise (fun a b => a.1 < b.1) → (∀ y ∈ l, x.1 ≠ y.1) → (insP x l).Pairwise (fun a b => a.1 < b.1)
  | [], _, _ => List.pairwise_singleton _ _
  | y :: t, h, hx => by
    have h1 := List.pairwise_cons.1 h
    have hy := hx y (List.mem_cons_self ..)
    rw [insP]
    split
    · rename_i hlt
      refine List.Pairwise.cons (fun z hz => ?_) h
      rcases List.mem_cons.1 hz with rfl | hz
      · exact hlt
      · have := h1.1 z hz; omega
    · refine List.Pairwise.cons (fun z hz => ?_) (insP_lt x t h1.2 (fun z hz => hx z (List.mem_cons_of_mem _ hz)))
      rcases List.mem_cons.1 ((insP_perm x t).mem_iff.1 hz) with rfl | hz
      · omega
      · exact h1.1 z hz
theorem srtP_lt : ∀ l : List (Int × Int), apartP l = true → (srtP l).Pairwise (fun a b => a.1 < b.1)
  | [], _ => List.Pairwise.nil
  | x :: t, h => by
    rw [apartP, Bool.and_eq_true, List.all_eq_true] at h
    exact insP_lt x _ (srtP_lt t h.2) (fun y hy => by have := h.1 y ((srtP_perm t).mem_iff.1 hy); simpa using this)
theorem apartP_ne : ∀ l : List (Int × Int), apartP l = true → l.Pairwise (fun a b => a.1 ≠ b.1)
  | [], _ => List.Pairwise.nil
  | x :: t, h => by
    rw [apartP, Bool.and_eq_true, List.all_eq_true] at h
    exact List.Pairwise.cons (fun y hy => by have := h.1 y hy; simpa using this) (apartP_ne t h.2)
theorem apartP_of : ∀ l : List (Int × Int), l.Pairwise (fun a b => a.1 ≠ b.1) → apartP l = true
  | [], _ => rfl
  | x :: t, h => by
    have h1 := List.pairwise_cons.1 h
    rw [apartP, Bool.and_eq_true, List.all_eq_true]
    exact ⟨fun y hy => by simpa using h1.1 y hy, apartP_of t h1.2⟩
theorem sortedP_eq : ∀ (a b : List (Int × Int)), a.Pairwise (fun p q => p.1 < q.1) → b.Pairwise (fun p q => p.1 < q.1) → (∀ p, p ∈ a ↔ p ∈ b) → a = b
  | [], [], _, _, _ => rfl
  | [], y :: b, _, _, h => absurd ((h y).mpr (List.mem_cons_self ..)) (by simp)
  | x :: a, [], _, _, h => absurd ((h x).mp (List.mem_cons_self ..)) (by simp)
  | x :: a, y :: b, ha, hb, h => by
    have ha2 := List.pairwise_cons.mp ha
    have hb2 := List.pairwise_cons.mp hb
    have hxy : x = y := by
      rcases List.mem_cons.mp ((h x).mp (List.mem_cons_self ..)) with e | e
      · exact e
      · rcases List.mem_cons.mp ((h y).mpr (List.mem_cons_self ..)) with e2 | e2
        · exact e2.symm
        · have := hb2.1 x e
          have := ha2.1 y e2
          omega
    subst hxy
    rw [sortedP_eq a b ha2.2 hb2.2 (fun p => ⟨fun hp => by
      rcases List.mem_cons.mp ((h p).mp (List.mem_cons_of_mem _ hp)) with e | e
      · have := ha2.1 p hp; rw [e] at this; omega
      · exact e, fun hp => by
      rcases List.mem_cons.mp ((h p).mpr (List.mem_cons_of_mem _ hp)) with e | e
      · have := hb2.1 p hp; rw [e] at this; omega
      · exact e⟩)]
theorem srtP_uniq {l l' : List (Int × Int)} (ha : apartP l = true) (hp : l'.Perm l) (hs : l'.Pairwise (fun x y => x.1 ≤ y.1)) : l' = srtP l := by
  have hne : l'.Pairwise (fun x y => x.1 ≠ y.1) := (hp.pairwise_iff (fun h e => h e.symm)).2 (apartP_ne l ha)
  have hlt : l'.Pairwise (fun x y => x.1 < y.1) := (hs.and hne).imp (fun h => by omega)
  exact sortedP_eq _ _ hlt (srtP_lt l ha) (fun p => (hp.trans (srtP_perm l).symm).mem_iff)
theorem kSort_len {N : Nat} {l r : List (Int × Int)} (h : kSort N l = some r) : r.length = l.length := by
  unfold kSort at h
  split at h
  · obtain rfl := Option.some.inj h; exact (srtP_perm l).length_eq
  · cases h

theorem each_P {W : World} {ft : List Nat} : ∀ {l : List (Int × Int)} {vs : List Value}, (fEach (pairE (intE .i64) (intE .i64)) vs l).rd W ft → vs = cellsP l
  | [], vs, h => h
  | x :: l, vs, h => by
    obtain ⟨c, d, rfl, ⟨c1, d1, rfl, h1, h2⟩, h3⟩ := h
    have ih := each_P (l := l) (vs := d) h3
    subst ih
    have h1 : c1 = [Value.int .i64 x.1] := h1
    have h2 : d1 = [Value.int .i64 x.2] := h2
    subst h1; subst h2
    rfl
theorem each_of_P {W : World} {ft : List Nat} : ∀ l : List (Int × Int), (fEach (pairE (intE .i64) (intE .i64)) (cellsP l) l).rd W ft
  | [] => rfl
  | x :: l => ⟨encP x, cellsP l, rfl, ⟨[.int .i64 x.1], [.int .i64 x.2], rfl, rfl, rfl⟩, each_of_P (W := W) (ft := ft) l⟩

def kSort_R (A : Option Addr) (c n : Nat) (vs : List Value) (r : List (Int × Int)) (w0 : World) (v : Value) (w : World) : Prop := v = .tuple #[] ∧ n = r.length ∧ St (foots [rowG 30 2 (.slice A n c) n vs]) w0 w [rowG 30 2 (.slice A n c) n (cellsP r)]
theorem kSort_ok (N : Nat) (A : Option Addr) (c n : Nat) (vs : List Value) (l r : List (Int × Int)) (hn : n = l.length) (hF : kSort N l = some r) (w0 W : World) (ft : List Nat) (hE : (fEach (pairE (intE .i64) (intE .i64)) vs l).rd W ft)
    (hS : St (foots [rowG 30 2 (.slice A n c) n vs]) w0 w0 [rowG 30 2 (.slice A n c) n vs]) :
    Calls Tryd.prog 14 #[.slice A n c, .func (.func 15) #[] #[]] w0 fun e w => ∃ v, e = .returned v ∧ kSort_R A c n vs r w0 v w := by
  subst hn
  obtain rfl := each_P hE
  have hlen := kSort_len hF
  unfold kSort at hF
  split at hF
  rotate_left
  · cases hF
  rename_i hc
  obtain rfl := Option.some.inj hF
  have hr : w0.ownsRow 0 30 2 (.slice A l.length c) l.length (cellsP l) := (hS.holds (rowG 30 2 (.slice A l.length c) l.length (cellsP l)) (List.mem_singleton.2 rfl)).1
  rcases hr.2 with ⟨h, h0⟩ | ⟨g, cap, cur, e, hB, hb, h1, h2, h3, h4⟩
  · injection h with hA _ hc0
    subst hA; subst hc0
    have hnil : l = [] := List.length_eq_zero_iff.1 h0
    subst hnil
    refine (AnyF.slices_SortFunc_none Tryd.sortP none 0 _ w0).mono ?_
    rintro e w ⟨rfl, rfl⟩
    exact ⟨_, rfl, rfl, rfl, hS⟩
  · injection e with hA _ hcc
    subst hA; subst hcc
    refine (sort_some g c l w0 hc.1 hS).mono ?_
    rintro e w ⟨rfl, l', hp, hs, hw⟩
    obtain rfl := srtP_uniq hc.2 hp hs
    refine ⟨_, rfl, rfl, hlen.symm, ?_⟩
    have hw2 := hw
    unfold prE at hw2
    rw [hlen] at hw2
    exact hw2
end Go.Proofs.YtdfgecndbfmgnaaDoor
