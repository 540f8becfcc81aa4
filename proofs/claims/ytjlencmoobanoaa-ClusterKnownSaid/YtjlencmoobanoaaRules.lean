/-
  The chapter's table as the code makes it: closures, and what each of them says.
-/
import Derived.Test.YtjlencmoobanoaaSet
namespace Go.Proofs.Ytjlencmoobanoaa
open Go Go.RowKit

/-- what is asked of what stands ahead -/
inductive AK where
  | mask (m : Nat)
  | any
  | joined
  | odd
deriving DecidableEq

def AK.says (p : PastS) : AK → Bool
  | .mask m => m.testBit p.last
  | .any => true
  | .joined => p.joined
  | .odd => p.odd

/-- what is asked of the class behind -/
inductive BK where
  | mask (m : Nat)
  | any
deriving DecidableEq

def BK.says (c : Nat) : BK → Bool
  | .mask m => m.testBit c
  | .any => true

def ruleL : List (AK × BK × Bool) := [(.mask 2, .mask 4, false), (.mask 14, .any, true), (.any, .mask 14, true), (.mask 256, .mask 6912, false), (.mask 2560, .mask 1536, false), (.mask 5120, .mask 1024, false), (.any, .mask 48, false), (.mask 128, .any, false), (.joined, .mask 8192, false), (.odd, .mask 64, false), (.any, .any, true)]

/-- a closure of the table, as a value; what it hangs on lies in the blocks from lo to hi -/
def FnA (w : World) (lo hi : Nat) (v : Value) : AK → Prop
  | .mask m => ∃ pc, v = .func (.func 30) #[] #[.pointer (some ⟨pc, 0, none⟩)] ∧ lo ≤ pc ∧ pc < hi ∧ m < 65536 ∧ w.cell? ⟨pc, 0, none⟩ = some (.int .u16 (m : Int))
  | .any => v = .func (.func 34) #[] #[]
  | .joined => v = .func (.func 36) #[] #[]
  | .odd => v = .func (.func 37) #[] #[]

def FnB (w : World) (lo hi : Nat) (v : Value) : BK → Prop
  | .mask m => ∃ pc, v = .func (.func 33) #[] #[.pointer (some ⟨pc, 0, none⟩)] ∧ lo ≤ pc ∧ pc < hi ∧ m < 65536 ∧ w.cell? ⟨pc, 0, none⟩ = some (.int .u16 (m : Int))
  | .any => v = .func (.func 35) #[] #[]

/-- what is kept: the blocks from lo to hi -/
def KeptR (lo hi : Nat) (w w' : World) : Prop := ∀ k, lo ≤ k → k < hi → w'.heap[k]? = w.heap[k]?

theorem KeptR.cell {lo hi : Nat} {w w' : World} (h : KeptR lo hi w w') {p : Addr} (h1 : lo ≤ p.block) (h2 : p.block < hi) : w'.cell? p = w.cell? p := World.cell?_of_block (w := w) (h p.block h1 h2)
theorem KeptR.below {lo hi B : Nat} {w w' : World} (h : Below B w w') (hB : hi ≤ B) : KeptR lo hi w w' := fun k _ hk => h.block k (Nat.lt_of_lt_of_le hk hB)
theorem KeptR.trans {lo hi : Nat} {a b c : World} (h : KeptR lo hi a b) (k : KeptR lo hi b c) : KeptR lo hi a c := fun i h1 h2 => (k i h1 h2).trans (h i h1 h2)
theorem KeptR.refl (lo hi : Nat) (w : World) : KeptR lo hi w w := fun _ _ _ => rfl

theorem FnA.keep {w w' : World} {lo hi : Nat} {v : Value} {k : AK} (h : FnA w lo hi v k) (hk : KeptR lo hi w w') : FnA w' lo hi v k := by
  cases k with
  | mask m =>
    obtain ⟨pc, e, h1, h2, h3, h4⟩ := h
    exact ⟨pc, e, h1, h2, h3, by rw [hk.cell (by exact h1) (by exact h2)]; exact h4⟩
  | _ => exact h
theorem FnB.keep {w w' : World} {lo hi : Nat} {v : Value} {k : BK} (h : FnB w lo hi v k) (hk : KeptR lo hi w w') : FnB w' lo hi v k := by
  cases k with
  | mask m =>
    obtain ⟨pc, e, h1, h2, h3, h4⟩ := h
    exact ⟨pc, e, h1, h2, h3, by rw [hk.cell (by exact h1) (by exact h2)]; exact h4⟩
  | _ => exact h

/-- the table lies in memory -/
def RulesAt (w : World) (lo hi g : Nat) : Prop := lo ≤ g ∧ g < hi ∧ ∀ (i : Nat) (h : i < ruleL.length), ∃ va vb, w.cell? ⟨g, i * 3, none⟩ = some va ∧ w.cell? ⟨g, i * 3 + 1, none⟩ = some vb ∧ w.cell? ⟨g, i * 3 + 2, none⟩ = some (.bool ruleL[i].2.2) ∧ FnA w lo hi va ruleL[i].1 ∧ FnB w lo hi vb ruleL[i].2.1

theorem RulesAt.keep {w w' : World} {lo hi g : Nat} (h : RulesAt w lo hi g) (hk : KeptR lo hi w w') : RulesAt w' lo hi g := by
  obtain ⟨h1, h2, h3⟩ := h
  refine ⟨h1, h2, fun i hi => ?_⟩
  obtain ⟨va, vb, c1, c2, c3, fa, fb⟩ := h3 i hi
  exact ⟨va, vb, by rw [hk.cell (by exact h1) (by exact h2)]; exact c1, by rw [hk.cell (by exact h1) (by exact h2)]; exact c2, by rw [hk.cell (by exact h1) (by exact h2)]; exact c3, fa.keep hk, fb.keep hk⟩

/-! ### the makers of closures -/

theorem cells_new (w : World) (cs : List Nat) (t : TypeId) (j : Nat) (h : j < cs.length) : (w.alloc (.cells (cs.map fun d : Nat => Value.int .u8 (d : Int)).toArray t)).cell? ⟨w.heap.size, j, none⟩ = some (.int .u8 ((cs[j] : Nat) : Int)) := by
  rw [cell_of_row _ w.heap.size j _ _ _ (heap_alloc_new w _)]
  simp [h]

/-- how a maker ends -/
def Made (f : Nat) (m : Nat) (w : World) (e : Ending) (w' : World) : Prop := ∃ pc, e = .returned (.func (.func f) #[] #[.pointer (some ⟨pc, 0, none⟩)]) ∧ Below w.heap.size w w' ∧ w.heap.size ≤ pc ∧ pc < w'.heap.size ∧ w'.cell? ⟨pc, 0, none⟩ = some (.int .u16 (m : Int))

set_option maxRecDepth 20000 in
theorem after_any (cs : List Nat) (hcs : ∀ c ∈ cs, c < 16) (hl : cs.length ≤ 100) (g : Nat) (n cap : Nat) (hn : n = cs.length) (m : Nat) (hm : maskN cs 0 = m) (w : World) (hcell : ∀ (j : Nat) (h : j < cs.length), w.cell? ⟨g, j, none⟩ = some (.int .u8 ((cs[j] : Nat) : Int))) :
    Calls Try.prog 28 #[.slice (some ⟨g, 0, none⟩) n cap] w (Made 30 m w) := by
  have hs := setOf_any cs hcs hl g n cap hn w hcell
  rw [hm] at hs
  have HS := Lib.hid hs
  clear hs hm hcell hn hcs
  go_enter Try.func28, Try.ntmps28
  go_wp2_with fail
  refine (HS.out).mono ?_
  rintro e w1 ⟨rfl, rfl⟩
  go_wp2_with fail
  go_ret
  exact ⟨w.heap.size, rfl, (Below.refl _ w).alloc (Nat.le_refl _) _, Nat.le_refl _, heap_more _ _, by rw [cell_of_row _ w.heap.size 0 _ _ _ (heap_alloc_new w _)]; rfl⟩

set_option maxRecDepth 20000 in
theorem of_any (cs : List Nat) (hcs : ∀ c ∈ cs, c < 16) (hl : cs.length ≤ 100) (g : Nat) (n cap : Nat) (hn : n = cs.length) (m : Nat) (hm : maskN cs 0 = m) (w : World) (hcell : ∀ (j : Nat) (h : j < cs.length), w.cell? ⟨g, j, none⟩ = some (.int .u8 ((cs[j] : Nat) : Int))) :
    Calls Try.prog 32 #[.slice (some ⟨g, 0, none⟩) n cap] w (Made 33 m w) := by
  have hs := setOf_any cs hcs hl g n cap hn w hcell
  rw [hm] at hs
  have HS := Lib.hid hs
  clear hs hm hcell hn hcs
  go_enter Try.func32, Try.ntmps32
  go_wp2_with fail
  refine (HS.out).mono ?_
  rintro e w1 ⟨rfl, rfl⟩
  go_wp2_with fail
  go_ret
  exact ⟨w.heap.size, rfl, (Below.refl _ w).alloc (Nat.le_refl _) _, Nat.le_refl _, heap_more _ _, by rw [cell_of_row _ w.heap.size 0 _ _ _ (heap_alloc_new w _)]; rfl⟩

set_option maxHeartbeats 8000000 in
set_option maxRecDepth 20000 in
/-- the table, made -/
theorem rules_any (w : World) : Calls Try.prog 16 #[] w fun e w' => Below w.heap.size w w' ∧ ∃ g, e = .returned (.slice (some ⟨g, 0, none⟩) 11 11) ∧ RulesAt w' w.heap.size w'.heap.size g := by
  go_enter Try.func16, Try.ntmps16
  go_wp2_with fail
  refine (after_any [1] (by decide) (by decide) w.heap.size 1 1 rfl 2 (by decide) _ (fun j hj => cells_new w [1] _ j hj)).mono ?_
  rintro e w1 ⟨p1, rfl, hb1, hlo1, hhi1, hc1⟩
  have B1 := Lib.hid (((Below.refl _ w).alloc (Nat.le_refl _) _).trans (hb1.mono (Nat.le_of_lt (heap_more _ _))))
  have L1 : Hid (w.heap.size < p1) := Lib.hid (Nat.lt_of_lt_of_le (heap_more _ _) hlo1)
  have C1 := Lib.hid hc1
  have U1 := Lib.hid hhi1
  clear hb1 hlo1 hhi1 hc1
  go_wp2_with fail
  refine (of_any [2] (by decide) (by decide) w1.heap.size 1 1 rfl 4 (by decide) _ (fun j hj => cells_new w1 [2] _ j hj)).mono ?_
  rintro e w2 ⟨p2, rfl, hb2, hlo2, hhi2, hc2⟩
  have B2 := Lib.hid (((Below.refl _ w1).alloc (Nat.le_refl _) _).trans (hb2.mono (Nat.le_of_lt (heap_more _ _))))
  have L2 : Hid (w1.heap.size < p2) := Lib.hid (Nat.lt_of_lt_of_le (heap_more _ _) hlo2)
  have C2 := Lib.hid hc2
  have U2 := Lib.hid hhi2
  clear hb2 hlo2 hhi2 hc2
  go_wp2_with fail
  refine (after_any [1, 2, 3] (by decide) (by decide) w2.heap.size 3 3 rfl 14 (by decide) _ (fun j hj => cells_new w2 [1, 2, 3] _ j hj)).mono ?_
  rintro e w3 ⟨p3, rfl, hb3, hlo3, hhi3, hc3⟩
  have B3 := Lib.hid (((Below.refl _ w2).alloc (Nat.le_refl _) _).trans (hb3.mono (Nat.le_of_lt (heap_more _ _))))
  have L3 : Hid (w2.heap.size < p3) := Lib.hid (Nat.lt_of_lt_of_le (heap_more _ _) hlo3)
  have C3 := Lib.hid hc3
  have U3 := Lib.hid hhi3
  clear hb3 hlo3 hhi3 hc3
  go_wp2_with fail
  refine (of_any [1, 2, 3] (by decide) (by decide) w3.heap.size 3 3 rfl 14 (by decide) _ (fun j hj => cells_new w3 [1, 2, 3] _ j hj)).mono ?_
  rintro e w4 ⟨p4, rfl, hb4, hlo4, hhi4, hc4⟩
  have B4 := Lib.hid (((Below.refl _ w3).alloc (Nat.le_refl _) _).trans (hb4.mono (Nat.le_of_lt (heap_more _ _))))
  have L4 : Hid (w3.heap.size < p4) := Lib.hid (Nat.lt_of_lt_of_le (heap_more _ _) hlo4)
  have C4 := Lib.hid hc4
  have U4 := Lib.hid hhi4
  clear hb4 hlo4 hhi4 hc4
  go_wp2_with fail
  refine (after_any [8] (by decide) (by decide) w4.heap.size 1 1 rfl 256 (by decide) _ (fun j hj => cells_new w4 [8] _ j hj)).mono ?_
  rintro e w5 ⟨p5, rfl, hb5, hlo5, hhi5, hc5⟩
  have B5 := Lib.hid (((Below.refl _ w4).alloc (Nat.le_refl _) _).trans (hb5.mono (Nat.le_of_lt (heap_more _ _))))
  have L5 : Hid (w4.heap.size < p5) := Lib.hid (Nat.lt_of_lt_of_le (heap_more _ _) hlo5)
  have C5 := Lib.hid hc5
  have U5 := Lib.hid hhi5
  clear hb5 hlo5 hhi5 hc5
  go_wp2_with fail
  refine (of_any [8, 9, 11, 12] (by decide) (by decide) w5.heap.size 4 4 rfl 6912 (by decide) _ (fun j hj => cells_new w5 [8, 9, 11, 12] _ j hj)).mono ?_
  rintro e w6 ⟨p6, rfl, hb6, hlo6, hhi6, hc6⟩
  have B6 := Lib.hid (((Below.refl _ w5).alloc (Nat.le_refl _) _).trans (hb6.mono (Nat.le_of_lt (heap_more _ _))))
  have L6 : Hid (w5.heap.size < p6) := Lib.hid (Nat.lt_of_lt_of_le (heap_more _ _) hlo6)
  have C6 := Lib.hid hc6
  have U6 := Lib.hid hhi6
  clear hb6 hlo6 hhi6 hc6
  go_wp2_with fail
  refine (after_any [11, 9] (by decide) (by decide) w6.heap.size 2 2 rfl 2560 (by decide) _ (fun j hj => cells_new w6 [11, 9] _ j hj)).mono ?_
  rintro e w7 ⟨p7, rfl, hb7, hlo7, hhi7, hc7⟩
  have B7 := Lib.hid (((Below.refl _ w6).alloc (Nat.le_refl _) _).trans (hb7.mono (Nat.le_of_lt (heap_more _ _))))
  have L7 : Hid (w6.heap.size < p7) := Lib.hid (Nat.lt_of_lt_of_le (heap_more _ _) hlo7)
  have C7 := Lib.hid hc7
  have U7 := Lib.hid hhi7
  clear hb7 hlo7 hhi7 hc7
  go_wp2_with fail
  refine (of_any [9, 10] (by decide) (by decide) w7.heap.size 2 2 rfl 1536 (by decide) _ (fun j hj => cells_new w7 [9, 10] _ j hj)).mono ?_
  rintro e w8 ⟨p8, rfl, hb8, hlo8, hhi8, hc8⟩
  have B8 := Lib.hid (((Below.refl _ w7).alloc (Nat.le_refl _) _).trans (hb8.mono (Nat.le_of_lt (heap_more _ _))))
  have L8 : Hid (w7.heap.size < p8) := Lib.hid (Nat.lt_of_lt_of_le (heap_more _ _) hlo8)
  have C8 := Lib.hid hc8
  have U8 := Lib.hid hhi8
  clear hb8 hlo8 hhi8 hc8
  go_wp2_with fail
  refine (after_any [12, 10] (by decide) (by decide) w8.heap.size 2 2 rfl 5120 (by decide) _ (fun j hj => cells_new w8 [12, 10] _ j hj)).mono ?_
  rintro e w9 ⟨p9, rfl, hb9, hlo9, hhi9, hc9⟩
  have B9 := Lib.hid (((Below.refl _ w8).alloc (Nat.le_refl _) _).trans (hb9.mono (Nat.le_of_lt (heap_more _ _))))
  have L9 : Hid (w8.heap.size < p9) := Lib.hid (Nat.lt_of_lt_of_le (heap_more _ _) hlo9)
  have C9 := Lib.hid hc9
  have U9 := Lib.hid hhi9
  clear hb9 hlo9 hhi9 hc9
  go_wp2_with fail
  refine (of_any [10] (by decide) (by decide) w9.heap.size 1 1 rfl 1024 (by decide) _ (fun j hj => cells_new w9 [10] _ j hj)).mono ?_
  rintro e w10 ⟨p10, rfl, hb10, hlo10, hhi10, hc10⟩
  have B10 := Lib.hid (((Below.refl _ w9).alloc (Nat.le_refl _) _).trans (hb10.mono (Nat.le_of_lt (heap_more _ _))))
  have L10 : Hid (w9.heap.size < p10) := Lib.hid (Nat.lt_of_lt_of_le (heap_more _ _) hlo10)
  have C10 := Lib.hid hc10
  have U10 := Lib.hid hhi10
  clear hb10 hlo10 hhi10 hc10
  go_wp2_with fail
  refine (of_any [4, 5] (by decide) (by decide) w10.heap.size 2 2 rfl 48 (by decide) _ (fun j hj => cells_new w10 [4, 5] _ j hj)).mono ?_
  rintro e w11 ⟨p11, rfl, hb11, hlo11, hhi11, hc11⟩
  have B11 := Lib.hid (((Below.refl _ w10).alloc (Nat.le_refl _) _).trans (hb11.mono (Nat.le_of_lt (heap_more _ _))))
  have L11 : Hid (w10.heap.size < p11) := Lib.hid (Nat.lt_of_lt_of_le (heap_more _ _) hlo11)
  have C11 := Lib.hid hc11
  have U11 := Lib.hid hhi11
  clear hb11 hlo11 hhi11 hc11
  go_wp2_with fail
  refine (after_any [7] (by decide) (by decide) w11.heap.size 1 1 rfl 128 (by decide) _ (fun j hj => cells_new w11 [7] _ j hj)).mono ?_
  rintro e w12 ⟨p12, rfl, hb12, hlo12, hhi12, hc12⟩
  have B12 := Lib.hid (((Below.refl _ w11).alloc (Nat.le_refl _) _).trans (hb12.mono (Nat.le_of_lt (heap_more _ _))))
  have L12 : Hid (w11.heap.size < p12) := Lib.hid (Nat.lt_of_lt_of_le (heap_more _ _) hlo12)
  have C12 := Lib.hid hc12
  have U12 := Lib.hid hhi12
  clear hb12 hlo12 hhi12 hc12
  go_wp2_with fail
  refine (of_any [13] (by decide) (by decide) w12.heap.size 1 1 rfl 8192 (by decide) _ (fun j hj => cells_new w12 [13] _ j hj)).mono ?_
  rintro e w13 ⟨p13, rfl, hb13, hlo13, hhi13, hc13⟩
  have B13 := Lib.hid (((Below.refl _ w12).alloc (Nat.le_refl _) _).trans (hb13.mono (Nat.le_of_lt (heap_more _ _))))
  have L13 : Hid (w12.heap.size < p13) := Lib.hid (Nat.lt_of_lt_of_le (heap_more _ _) hlo13)
  have C13 := Lib.hid hc13
  have U13 := Lib.hid hhi13
  clear hb13 hlo13 hhi13 hc13
  go_wp2_with fail
  refine (of_any [6] (by decide) (by decide) w13.heap.size 1 1 rfl 64 (by decide) _ (fun j hj => cells_new w13 [6] _ j hj)).mono ?_
  rintro e w14 ⟨p14, rfl, hb14, hlo14, hhi14, hc14⟩
  have B14 := Lib.hid (((Below.refl _ w13).alloc (Nat.le_refl _) _).trans (hb14.mono (Nat.le_of_lt (heap_more _ _))))
  have L14 : Hid (w13.heap.size < p14) := Lib.hid (Nat.lt_of_lt_of_le (heap_more _ _) hlo14)
  have C14 := Lib.hid hc14
  have U14 := Lib.hid hhi14
  clear hb14 hlo14 hhi14 hc14
  go_wp2_with fail
  go_ret
  obtain ⟨WF, hWF⟩ : ∃ WF, WF = w14.alloc (.cells #[.func (.func 30) #[] #[.pointer (some ⟨p1, 0, none⟩)], .func (.func 33) #[] #[.pointer (some ⟨p2, 0, none⟩)], .bool false, .func (.func 30) #[] #[.pointer (some ⟨p3, 0, none⟩)], .func (.func 35) #[] #[], .bool true, .func (.func 34) #[] #[], .func (.func 33) #[] #[.pointer (some ⟨p4, 0, none⟩)], .bool true, .func (.func 30) #[] #[.pointer (some ⟨p5, 0, none⟩)], .func (.func 33) #[] #[.pointer (some ⟨p6, 0, none⟩)], .bool false, .func (.func 30) #[] #[.pointer (some ⟨p7, 0, none⟩)], .func (.func 33) #[] #[.pointer (some ⟨p8, 0, none⟩)], .bool false, .func (.func 30) #[] #[.pointer (some ⟨p9, 0, none⟩)], .func (.func 33) #[] #[.pointer (some ⟨p10, 0, none⟩)], .bool false, .func (.func 34) #[] #[], .func (.func 33) #[] #[.pointer (some ⟨p11, 0, none⟩)], .bool false, .func (.func 30) #[] #[.pointer (some ⟨p12, 0, none⟩)], .func (.func 35) #[] #[], .bool false, .func (.func 36) #[] #[], .func (.func 33) #[] #[.pointer (some ⟨p13, 0, none⟩)], .bool false, .func (.func 37) #[] #[], .func (.func 33) #[] #[.pointer (some ⟨p14, 0, none⟩)], .bool false, .func (.func 34) #[] #[], .func (.func 35) #[] #[], .bool true] 39) := ⟨_, rfl⟩
  have Z14 : Below w14.heap.size w14 WF := by rw [hWF]; exact (Below.refl _ w14).alloc (Nat.le_refl _) _
  have Z13 : Below w13.heap.size w13 WF := B14.out.trans (Z14.mono B14.out.size)
  have Z12 : Below w12.heap.size w12 WF := B13.out.trans (Z13.mono B13.out.size)
  have Z11 : Below w11.heap.size w11 WF := B12.out.trans (Z12.mono B12.out.size)
  have Z10 : Below w10.heap.size w10 WF := B11.out.trans (Z11.mono B11.out.size)
  have Z9 : Below w9.heap.size w9 WF := B10.out.trans (Z10.mono B10.out.size)
  have Z8 : Below w8.heap.size w8 WF := B9.out.trans (Z9.mono B9.out.size)
  have Z7 : Below w7.heap.size w7 WF := B8.out.trans (Z8.mono B8.out.size)
  have Z6 : Below w6.heap.size w6 WF := B7.out.trans (Z7.mono B7.out.size)
  have Z5 : Below w5.heap.size w5 WF := B6.out.trans (Z6.mono B6.out.size)
  have Z4 : Below w4.heap.size w4 WF := B5.out.trans (Z5.mono B5.out.size)
  have Z3 : Below w3.heap.size w3 WF := B4.out.trans (Z4.mono B4.out.size)
  have Z2 : Below w2.heap.size w2 WF := B3.out.trans (Z3.mono B3.out.size)
  have Z1 : Below w1.heap.size w1 WF := B2.out.trans (Z2.mono B2.out.size)
  have Z0 : Below w.heap.size w WF := B1.out.trans (Z1.mono B1.out.size)
  have D1 : WF.cell? ⟨p1, 0, none⟩ = some (.int .u16 ((2 : Nat) : Int)) := by rw [Z1.cell (by exact U1.out)]; exact C1.out
  have E1 : p1 < WF.heap.size := Nat.lt_of_lt_of_le U1.out Z1.size
  have G1 : w.heap.size ≤ p1 := Nat.le_trans (Nat.le_refl _) (Nat.le_of_lt L1.out)
  have Y1 : w.heap.size ≤ w1.heap.size := B1.out.size
  have D2 : WF.cell? ⟨p2, 0, none⟩ = some (.int .u16 ((4 : Nat) : Int)) := by rw [Z2.cell (by exact U2.out)]; exact C2.out
  have E2 : p2 < WF.heap.size := Nat.lt_of_lt_of_le U2.out Z2.size
  have G2 : w.heap.size ≤ p2 := Nat.le_trans Y1 (Nat.le_of_lt L2.out)
  have Y2 : w.heap.size ≤ w2.heap.size := Nat.le_trans Y1 B2.out.size
  have D3 : WF.cell? ⟨p3, 0, none⟩ = some (.int .u16 ((14 : Nat) : Int)) := by rw [Z3.cell (by exact U3.out)]; exact C3.out
  have E3 : p3 < WF.heap.size := Nat.lt_of_lt_of_le U3.out Z3.size
  have G3 : w.heap.size ≤ p3 := Nat.le_trans Y2 (Nat.le_of_lt L3.out)
  have Y3 : w.heap.size ≤ w3.heap.size := Nat.le_trans Y2 B3.out.size
  have D4 : WF.cell? ⟨p4, 0, none⟩ = some (.int .u16 ((14 : Nat) : Int)) := by rw [Z4.cell (by exact U4.out)]; exact C4.out
  have E4 : p4 < WF.heap.size := Nat.lt_of_lt_of_le U4.out Z4.size
  have G4 : w.heap.size ≤ p4 := Nat.le_trans Y3 (Nat.le_of_lt L4.out)
  have Y4 : w.heap.size ≤ w4.heap.size := Nat.le_trans Y3 B4.out.size
  have D5 : WF.cell? ⟨p5, 0, none⟩ = some (.int .u16 ((256 : Nat) : Int)) := by rw [Z5.cell (by exact U5.out)]; exact C5.out
  have E5 : p5 < WF.heap.size := Nat.lt_of_lt_of_le U5.out Z5.size
  have G5 : w.heap.size ≤ p5 := Nat.le_trans Y4 (Nat.le_of_lt L5.out)
  have Y5 : w.heap.size ≤ w5.heap.size := Nat.le_trans Y4 B5.out.size
  have D6 : WF.cell? ⟨p6, 0, none⟩ = some (.int .u16 ((6912 : Nat) : Int)) := by rw [Z6.cell (by exact U6.out)]; exact C6.out
  have E6 : p6 < WF.heap.size := Nat.lt_of_lt_of_le U6.out Z6.size
  have G6 : w.heap.size ≤ p6 := Nat.le_trans Y5 (Nat.le_of_lt L6.out)
  have Y6 : w.heap.size ≤ w6.heap.size := Nat.le_trans Y5 B6.out.size
  have D7 : WF.cell? ⟨p7, 0, none⟩ = some (.int .u16 ((2560 : Nat) : Int)) := by rw [Z7.cell (by exact U7.out)]; exact C7.out
  have E7 : p7 < WF.heap.size := Nat.lt_of_lt_of_le U7.out Z7.size
  have G7 : w.heap.size ≤ p7 := Nat.le_trans Y6 (Nat.le_of_lt L7.out)
  have Y7 : w.heap.size ≤ w7.heap.size := Nat.le_trans Y6 B7.out.size
  have D8 : WF.cell? ⟨p8, 0, none⟩ = some (.int .u16 ((1536 : Nat) : Int)) := by rw [Z8.cell (by exact U8.out)]; exact C8.out
  have E8 : p8 < WF.heap.size := Nat.lt_of_lt_of_le U8.out Z8.size
  have G8 : w.heap.size ≤ p8 := Nat.le_trans Y7 (Nat.le_of_lt L8.out)
  have Y8 : w.heap.size ≤ w8.heap.size := Nat.le_trans Y7 B8.out.size
  have D9 : WF.cell? ⟨p9, 0, none⟩ = some (.int .u16 ((5120 : Nat) : Int)) := by rw [Z9.cell (by exact U9.out)]; exact C9.out
  have E9 : p9 < WF.heap.size := Nat.lt_of_lt_of_le U9.out Z9.size
  have G9 : w.heap.size ≤ p9 := Nat.le_trans Y8 (Nat.le_of_lt L9.out)
  have Y9 : w.heap.size ≤ w9.heap.size := Nat.le_trans Y8 B9.out.size
  have D10 : WF.cell? ⟨p10, 0, none⟩ = some (.int .u16 ((1024 : Nat) : Int)) := by rw [Z10.cell (by exact U10.out)]; exact C10.out
  have E10 : p10 < WF.heap.size := Nat.lt_of_lt_of_le U10.out Z10.size
  have G10 : w.heap.size ≤ p10 := Nat.le_trans Y9 (Nat.le_of_lt L10.out)
  have Y10 : w.heap.size ≤ w10.heap.size := Nat.le_trans Y9 B10.out.size
  have D11 : WF.cell? ⟨p11, 0, none⟩ = some (.int .u16 ((48 : Nat) : Int)) := by rw [Z11.cell (by exact U11.out)]; exact C11.out
  have E11 : p11 < WF.heap.size := Nat.lt_of_lt_of_le U11.out Z11.size
  have G11 : w.heap.size ≤ p11 := Nat.le_trans Y10 (Nat.le_of_lt L11.out)
  have Y11 : w.heap.size ≤ w11.heap.size := Nat.le_trans Y10 B11.out.size
  have D12 : WF.cell? ⟨p12, 0, none⟩ = some (.int .u16 ((128 : Nat) : Int)) := by rw [Z12.cell (by exact U12.out)]; exact C12.out
  have E12 : p12 < WF.heap.size := Nat.lt_of_lt_of_le U12.out Z12.size
  have G12 : w.heap.size ≤ p12 := Nat.le_trans Y11 (Nat.le_of_lt L12.out)
  have Y12 : w.heap.size ≤ w12.heap.size := Nat.le_trans Y11 B12.out.size
  have D13 : WF.cell? ⟨p13, 0, none⟩ = some (.int .u16 ((8192 : Nat) : Int)) := by rw [Z13.cell (by exact U13.out)]; exact C13.out
  have E13 : p13 < WF.heap.size := Nat.lt_of_lt_of_le U13.out Z13.size
  have G13 : w.heap.size ≤ p13 := Nat.le_trans Y12 (Nat.le_of_lt L13.out)
  have Y13 : w.heap.size ≤ w13.heap.size := Nat.le_trans Y12 B13.out.size
  have D14 : WF.cell? ⟨p14, 0, none⟩ = some (.int .u16 ((64 : Nat) : Int)) := by rw [Z14.cell (by exact U14.out)]; exact C14.out
  have E14 : p14 < WF.heap.size := Nat.lt_of_lt_of_le U14.out Z14.size
  have G14 : w.heap.size ≤ p14 := Nat.le_trans Y13 (Nat.le_of_lt L14.out)
  have Y14 : w.heap.size ≤ w14.heap.size := Nat.le_trans Y13 B14.out.size
  rw [← hWF]
  have hg1 : w14.heap.size < WF.heap.size := by rw [hWF]; exact heap_more _ _
  have hcells : ∀ (j : Nat) (v : Value), (#[.func (.func 30) #[] #[.pointer (some ⟨p1, 0, none⟩)], .func (.func 33) #[] #[.pointer (some ⟨p2, 0, none⟩)], .bool false, .func (.func 30) #[] #[.pointer (some ⟨p3, 0, none⟩)], .func (.func 35) #[] #[], .bool true, .func (.func 34) #[] #[], .func (.func 33) #[] #[.pointer (some ⟨p4, 0, none⟩)], .bool true, .func (.func 30) #[] #[.pointer (some ⟨p5, 0, none⟩)], .func (.func 33) #[] #[.pointer (some ⟨p6, 0, none⟩)], .bool false, .func (.func 30) #[] #[.pointer (some ⟨p7, 0, none⟩)], .func (.func 33) #[] #[.pointer (some ⟨p8, 0, none⟩)], .bool false, .func (.func 30) #[] #[.pointer (some ⟨p9, 0, none⟩)], .func (.func 33) #[] #[.pointer (some ⟨p10, 0, none⟩)], .bool false, .func (.func 34) #[] #[], .func (.func 33) #[] #[.pointer (some ⟨p11, 0, none⟩)], .bool false, .func (.func 30) #[] #[.pointer (some ⟨p12, 0, none⟩)], .func (.func 35) #[] #[], .bool false, .func (.func 36) #[] #[], .func (.func 33) #[] #[.pointer (some ⟨p13, 0, none⟩)], .bool false, .func (.func 37) #[] #[], .func (.func 33) #[] #[.pointer (some ⟨p14, 0, none⟩)], .bool false, .func (.func 34) #[] #[], .func (.func 35) #[] #[], .bool true] : Array Value)[j]? = some v → WF.cell? ⟨w14.heap.size, j, none⟩ = some v := by
    intro j v hj
    rw [hWF, cell_of_row _ w14.heap.size j _ _ _ (heap_alloc_new w14 _)]
    exact hj
  refine ⟨Z0, w14.heap.size, rfl, Y14, hg1, ?_⟩
  intro i hi
  have hi' : i < 11 := hi
  clear hWF
  rcases (show i = 0 ∨ i = 1 ∨ i = 2 ∨ i = 3 ∨ i = 4 ∨ i = 5 ∨ i = 6 ∨ i = 7 ∨ i = 8 ∨ i = 9 ∨ i = 10 by omega) with rfl | rfl | rfl | rfl | rfl | rfl | rfl | rfl | rfl | rfl | rfl
  · exact ⟨_, _, hcells 0 _ rfl, hcells 1 _ rfl, hcells 2 _ rfl, ⟨p1, rfl, G1, E1, by decide, D1⟩, ⟨p2, rfl, G2, E2, by decide, D2⟩⟩
  · exact ⟨_, _, hcells 3 _ rfl, hcells 4 _ rfl, hcells 5 _ rfl, ⟨p3, rfl, G3, E3, by decide, D3⟩, rfl⟩
  · exact ⟨_, _, hcells 6 _ rfl, hcells 7 _ rfl, hcells 8 _ rfl, rfl, ⟨p4, rfl, G4, E4, by decide, D4⟩⟩
  · exact ⟨_, _, hcells 9 _ rfl, hcells 10 _ rfl, hcells 11 _ rfl, ⟨p5, rfl, G5, E5, by decide, D5⟩, ⟨p6, rfl, G6, E6, by decide, D6⟩⟩
  · exact ⟨_, _, hcells 12 _ rfl, hcells 13 _ rfl, hcells 14 _ rfl, ⟨p7, rfl, G7, E7, by decide, D7⟩, ⟨p8, rfl, G8, E8, by decide, D8⟩⟩
  · exact ⟨_, _, hcells 15 _ rfl, hcells 16 _ rfl, hcells 17 _ rfl, ⟨p9, rfl, G9, E9, by decide, D9⟩, ⟨p10, rfl, G10, E10, by decide, D10⟩⟩
  · exact ⟨_, _, hcells 18 _ rfl, hcells 19 _ rfl, hcells 20 _ rfl, rfl, ⟨p11, rfl, G11, E11, by decide, D11⟩⟩
  · exact ⟨_, _, hcells 21 _ rfl, hcells 22 _ rfl, hcells 23 _ rfl, ⟨p12, rfl, G12, E12, by decide, D12⟩, rfl⟩
  · exact ⟨_, _, hcells 24 _ rfl, hcells 25 _ rfl, hcells 26 _ rfl, rfl, ⟨p13, rfl, G13, E13, by decide, D13⟩⟩
  · exact ⟨_, _, hcells 27 _ rfl, hcells 28 _ rfl, hcells 29 _ rfl, rfl, ⟨p14, rfl, G14, E14, by decide, D14⟩⟩
  · exact ⟨_, _, hcells 30 _ rfl, hcells 31 _ rfl, hcells 32 _ rfl, rfl, rfl⟩
end Go.Proofs.Ytjlencmoobanoaa
