/-
  SfntHeads: the walk.
-/
import Derived.Test.YtlpnikolnohcaaaHeadF
import Derived.Test.YtlpnikolnohcaaaWk5
namespace Go.Proofs.Ytlpnikolnohcaaa
open Go Go.RowKit

set_option maxHeartbeats 4000000 in
set_option maxRecDepth 20000 in
theorem headP_nil (w : World) : Calls Try.prog 15 #[.pointer none] w fun e w' => Below w.heap.size w w' ∧ e = .returned (.tuple #[.int .u16 0, .int .i64 50]) := by
  have hmf : ∀ (fn : Fn) (first cap : Array Value) (W : World), (Instr.makeFunc fn first cap).run Try.prog W = .ok (.func fn first cap) W := fun _ _ _ _ => rfl
  have HU := Lib.hid (unitsOf_nil (w.alloc (.cells #[.int .i64 0] 25)))
  go_enter_defers Try.func15, Try.ntmps15
  go_wp2_with fail
  refine (HU.out).mono ?_
  rintro e w1 ⟨hb, rfl⟩
  obtain ⟨hc, hz, hw⟩ := face_var hb
  have HB := Lib.hid hw
  refine leaves_cons (f := 37) (args := #[.pointer (some ⟨w.heap.size, 0, none⟩)]) (by simp) (by simp [go_sem]) ?_
  refine (catchHead ⟨w.heap.size, 0, none⟩ 0 50 [] _ hc hz).mono ?_
  rintro e u' w2 ⟨rfl, rfl, hw2⟩
  have hcell : w2.cell? ⟨w.heap.size, 0, none⟩ = some (.int .i64 50) := by rw [hw2]; exact World.cell?_setCell_same _ _ _ hc
  have hbel : Below w.heap.size w w2 := by rw [hw2]; exact HB.out.setCell (p := ⟨w.heap.size, 0, none⟩) (Nat.le_refl _) _
  clear hw2 hc hz hb hw
  simp [Leaves, settle, results, Try.results15, go_sem, hcell]
  exact hbel

set_option maxHeartbeats 4000000 in
set_option maxRecDepth 20000 in
theorem sfntHeads_any (w : World) (v : Value) (l : List Int) (hA : AllB l) (hv : NumZ .u8 w v l) (hnn : ∀ n c, v = .slice none n c → n = 0 ∧ c = 0) :
    Calls Try.prog 5 #[v] w fun e w' => e = .returned (.bool true) ∧ Below w.heap.size w w' := by
  have HW := Lib.hid (fun w => works5_any w)
  have HV := Lib.hid hv
  have HNN := Lib.hid hnn
  have HA := Lib.hid hA
  obtain ⟨A, c, rfl, _, _, hcell⟩ := hv
  obtain ⟨N, hN⟩ : ∃ N, N = l.length := ⟨_, rfl⟩
  have HN := Lib.hid hN
  rw [← hN] at HV HNN ⊢
  by_cases h2 : 200 < N
  · have b1 : (200 < (N : Int)) = True := eq_true (by omega)
    clear h2 hN hcell hA hnn
    go_enter Try.func5, Try.ntmps5
    go_wp2_with fail
    refine (HW.out _).mono ?_
    rintro e w1 ⟨rfl, hb⟩
    have HB := Lib.hid hb
    clear hb
    go_wp2_with fail
    go_ret
    exact ⟨rfl, HB.out⟩
  · have b1 : (200 < (N : Int)) = False := eq_false (by omega)
    have HO := Lib.hid (open_any w _ l HV.out HNN.out (by omega))
    have HH : Hid (∀ wx r, RdZ wx r l → Calls Try.prog 15 #[r] wx fun e w' => Below wx.heap.size wx w' ∧ e = .returned (.tuple #[.int .u16 (headS l).1, .int .i64 (headS l).2])) := Lib.hid (fun wx r hr => headP_any wx r l hr HA.out)
    have HR : Hid (∀ wx, Below w.heap.size w wx → Calls Try.prog 17 #[.slice A N c] wx fun e w' => e = .returned (.tuple #[.int .u16 (headS l).1, .int .i64 (headS l).2]) ∧ Below wx.heap.size wx w') := Lib.hid (fun wx hb => refHead_any wx _ l (HV.out.below hb) HA.out (by omega))
    have HNI := Lib.hid (fun wx => headP_nil wx)
    generalize (headS l).1 = x at HH HR
    generalize (headS l).2 = y at HH HR
    have bx : (x == x) = true := by simp
    have bey : (y == y) = true := by simp
    clear h2 hN hcell hA hnn
    go_enter Try.func5, Try.ntmps5
    go_wp2_with fail
    refine (HO.out).mono ?_
    rintro e w1 ⟨hb, r, rfl, hr⟩
    have HB1 := Lib.hid hb
    have HR1 := Lib.hid hr
    clear hb hr
    go_wp2_with fail
    refine (HH.out _ _ HR1.out).mono ?_
    rintro e w2 ⟨hb, rfl⟩
    have HB2 := Lib.hid (HB1.out.trans (hb.mono HB1.out.size))
    clear hb
    go_wp2_with fail
    refine (HR.out _ HB2.out).mono ?_
    rintro e w3 ⟨rfl, hb⟩
    have HB3 := Lib.hid (HB2.out.trans (hb.mono HB2.out.size))
    clear hb
    go_wp2_with fail
    refine (HNI.out _).mono ?_
    rintro e w4 ⟨hb, rfl⟩
    have HB4 := Lib.hid (HB3.out.trans (hb.mono HB3.out.size))
    clear hb
    go_wp2_with fail
    refine (HW.out _).mono ?_
    rintro e w5 ⟨rfl, hb⟩
    have HB5 := Lib.hid (HB4.out.trans (hb.mono HB4.out.size))
    clear hb
    go_wp2_with fail
    go_ret
    exact ⟨rfl, HB5.out⟩
end Go.Proofs.Ytlpnikolnohcaaa
