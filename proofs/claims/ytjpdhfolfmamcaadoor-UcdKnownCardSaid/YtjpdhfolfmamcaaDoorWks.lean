/-
  works: some characters.
-/
import Derived.Test.YtjpdhfolfmamcaaDoorEq
import Derived.Test.YtjpdhfolfmamcaaDoorBack
import Derived.Lib.SlBytesConst
namespace Go.Proofs.YtjpdhfolfmamcaaDoor
open Go Go.RowKit

theorem heap_more (w : World) (o : Obj) : w.heap.size < (w.alloc o).heap.size := by show w.heap.size < (w.heap.push o).size; simp

/-- a new slice of bytes that are written out -/
theorem bytes_new (w : World) (bs : List Nat) (hd : ∀ d ∈ bs, d < 256) (hl : bs.length ≤ 1000000) (t : TypeId) (cs : Array Value) (hcs : cs = (bs.map fun d : Nat => Value.int .u8 (d : Int)).toArray) (A : Option Addr) (hA : A = some ⟨w.heap.size, 0, none⟩) (n : Nat) (hn : n = bs.length) (fz : Nat × Nat) :
    BytesR (w.alloc (.cells cs t fz)) (.slice A n n) (bytesOf bs) := by
  subst hcs
  subst hA
  subst hn
  have hsz := bytesOf_size bs
  refine ⟨_, bs.length, by rw [hsz], by omega, by omega, fun _ => ⟨w.heap.size, 0, rfl, heap_more _ _, ⟨fun j hj => ?_⟩⟩⟩
  rw [hsz] at hj
  rw [Nat.zero_add, cell_of_row _ w.heap.size j _ _ _ (heap_alloc_new w _), byN_getD, bytesOf_byteL bs hd]
  simp [hj]

theorem fin_sa : fin (bytesOf [215, 169, 97]) 0 [] = ([1513, 97], 3) := by
  have h := fin_enc (bytesOf [215, 169, 97]) [1513, 97] (by simp [scalar]) (by rw [bytesOf_byteL _ (by simp)]; rfl)
  rw [h, bytesOf_size]; rfl

theorem fin_bad3 : fin (bytesOf [97, 195, 40]) 0 [] = ([97], 1) := by
  have h0 : ¬ noChar (bytesOf [97, 195, 40]) 0 := by
    unfold noChar; rw [decode_by, byN_getD, bytesOf_byteL _ (by simp), dec_one _ _ _ _ _ (by simp)]; simp
  have h1 : Utf8.decode (bytesOf [97, 195, 40]) 0 = (97, 1) := by
    rw [decode_by, byN_getD, bytesOf_byteL _ (by simp), dec_one _ _ _ _ _ (by simp)]; simp
  have h2 : noChar (bytesOf [97, 195, 40]) 1 := by
    unfold noChar
    rw [decode_by]
    simp only [byN_getD, bytesOf_byteL [97, 195, 40] (by simp), bytesOf_size]
    exact dec_bad2 _ _ _ _ _ (by simp) (by simp)
  rw [fin_next _ _ _ (by rw [bytesOf_size]; simp) h0, h1]
  exact fin_bad _ 1 [97] (by rw [bytesOf_size]; simp) h2

set_option maxHeartbeats 4000000 in
set_option maxRecDepth 20000 in
theorem works_any (w : World) (hT : U8T w) : Calls Tryd.prog 11 #[] w fun e w' => e = .returned (.bool true) ∧ Below w.heap.size w w' := by
  have HT := Lib.hid hT
  have k1 : classC 1576 = 3 := by kernel_rfl
  have k2 : semL E1 joiningL joiningD 1576 = 2 := by kernel_rfl
  have k3 : breakC 32 = 5 := by kernel_rfl
  have k4 : semL E1 clusterL clusterD 769 = 4 := by kernel_rfl
  have k5 : semL E1 scriptL scriptD 97 = 2 := by kernel_rfl
  have k6 : anyL E0 wideL 19968 = true := by kernel_rfl
  have k7 : anyL E0 spaceL 32 = true := by kernel_rfl
  have c1 := class_any 1576
  have c2 := joining_any 1576
  have c3 := break_any 32
  have c4 := cluster_any 769
  have c5 := script_any 97
  have c6 := wide_any 19968
  have c7 := space_any 32
  rw [k1] at c1
  rw [k2] at c2
  rw [k3] at c3
  rw [k4] at c4
  rw [k5] at c5
  rw [k6] at c6
  rw [k7] at c7
  have C1 := Lib.hid c1
  have C2 := Lib.hid c2
  have C3 := Lib.hid c3
  have C4 := Lib.hid c4
  have C5 := Lib.hid c5
  have C6 := Lib.hid c6
  have C7 := Lib.hid c7
  have kc := fun (w : World) (C : Array Value) (n c : Nat) => Lib.run_convert_bytes_const (P := Tryd.prog) w 33 5 C n c Tryd.underlying33 Tryd.underlying5
  clear hT k1 k2 k3 k4 k5 k6 k7 c1 c2 c3 c4 c5 c6 c7
  go_enter Tryd.func11, Tryd.ntmps11
  go_wp2_with fail
  refine (decode_any (bytesOf [215, 169, 97]) _ _ (by rw [bytesOf_size]; simp) ?_ (u8_below HT.out ((Below.refl _ w).alloc (Nat.le_refl _) _))).mono ?_
  · exact bytes_new w [215, 169, 97] (by simp) (by simp) _ _ rfl _ rfl _ rfl _
  rintro e w1 ⟨hb1, hend⟩
  rw [fin_sa, bytesOf_size] at hend
  have HB1 := Lib.hid (((Below.refl _ w).alloc (Nat.le_refl _) _).trans (hb1.mono (Nat.le_of_lt (heap_more _ _))))
  clear hb1
  rcases hend with ⟨h, _⟩ | ⟨_, v, rfl, hr⟩
  · exact absurd h (by simp)
  obtain ⟨A1, cp1, rfl, hc1, hc2, hcell⟩ := hr
  obtain ⟨g1, rfl, hg1, hcell⟩ := hcell (by simp)
  have x0 := hcell 0 (by simp)
  simp only [List.getElem_cons_zero] at x0
  have hlen : ([1513, 97] : List Nat).length = 2 := rfl
  rw [hlen] at hc1 ⊢
  clear hcell hlen
  have X0' := Lib.hid x0
  clear x0
  go_wp2_with fail
  refine (decode_any (bytesOf [97, 195, 40]) _ _ (by rw [bytesOf_size]; simp) ?_ (u8_below HT.out (HB1.out.alloc (HB1.out.size) _))).mono ?_
  · exact bytes_new w1 [97, 195, 40] (by simp) (by simp) _ _ rfl _ rfl _ rfl _
  rintro e w2 ⟨hb2, hend⟩
  rw [fin_bad3, bytesOf_size] at hend
  have HB2' := Lib.hid (((Below.refl _ w1).alloc (Nat.le_refl _) _).trans (hb2.mono (Nat.le_of_lt (heap_more _ _))))
  clear hb2
  have x0 : w2.cell? ⟨g1, 0, none⟩ = some (.int .i32 1513) := by rw [HB2'.out.cell (by exact hg1)]; exact X0'.out
  have HB2 := Lib.hid (HB1.out.trans (HB2'.out.mono HB1.out.size))
  rcases hend with ⟨_, rfl⟩ | ⟨h, _⟩
  rotate_left
  · exact absurd h (by simp)
  go_wp2_with fail
  refine (C1.out _).mono ?_
  rintro e w' ⟨rfl, rfl⟩
  go_wp2_with fail
  refine (C2.out _).mono ?_
  rintro e w' ⟨rfl, rfl⟩
  go_wp2_with fail
  refine (C3.out _).mono ?_
  rintro e w' ⟨rfl, rfl⟩
  go_wp2_with fail
  refine (C4.out _).mono ?_
  rintro e w' ⟨rfl, rfl⟩
  go_wp2_with fail
  refine (C5.out _).mono ?_
  rintro e w' ⟨rfl, rfl⟩
  go_wp2_with fail
  refine (C6.out _).mono ?_
  rintro e w' ⟨rfl, rfl⟩
  go_wp2_with fail
  refine (C7.out _).mono ?_
  rintro e w' ⟨rfl, rfl⟩
  go_wp2_with fail
  go_ret
  exact ⟨rfl, HB2.out⟩
end Go.Proofs.YtjpdhfolfmamcaaDoor
