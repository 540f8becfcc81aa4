/-
  SfntWidths: the walk.
-/
import Derived.Test.YtlpnikolnohcaaaWidF
namespace Go.Proofs.Ytlpnikolnohcaaa
open Go Go.RowKit

set_option maxHeartbeats 8000000 in
set_option maxRecDepth 20000 in
theorem widthsP_nil (w : World) (ra rc : Value) (a : List Int) (ha : RdZ w ra a) (hA : AllB a) (la : a.length ≤ 1000000) :
    Calls Try.prog 18 #[ra, .pointer none, rc] w fun e w' => Below w.heap.size w w' ∧ e = .returned (.tuple #[.slice none 0 0, .int .i16 0, .int .i16 0, .int .i64 50]) := by
  have hmf : ∀ (fn : Fn) (first cap : Array Value) (W : World), (Instr.makeFunc fn first cap).run Try.prog W = .ok (.func fn first cap) W := fun _ _ _ _ => rfl
  have HB0 := Lib.hid (below_alloc (.cells #[.int .i64 0] 25) (Below.refl w.heap.size w))
  have HG := Lib.hid (glyphsOf_any _ ra a (ha.below HB0.out) hA la)
  have HM := Lib.hid (fun wx y => measuredOf_nil wx y)
  generalize numAt a 4 2 = y at HG
  clear ha hA la
  go_enter_defers Try.func18, Try.ntmps18
  go_wp2_with fail
  refine (HG.out).mono ?_
  rintro e w1 ⟨hb1, ⟨hbd1, rfl⟩ | ⟨hbd1, rfl⟩⟩
  · have HB1 := Lib.hid hb1
    clear hb1 hbd1
    go_wp2_with fail
    refine (HM.out _ _).mono ?_
    rintro e w2 ⟨hb2, rfl⟩
    obtain ⟨hc, hz, hw⟩ := face_var (HB1.out.trans (hb2.mono HB1.out.size))
    have HB := Lib.hid hw
    refine leaves_cons (f := 40) (args := #[.pointer (some ⟨w.heap.size, 0, none⟩)]) (by simp) (by simp [go_sem]) ?_
    refine (catchWidths ⟨w.heap.size, 0, none⟩ 0 50 [] _ hc hz).mono ?_
    rintro e u' wf ⟨rfl, rfl, hwf⟩
    have hcell : wf.cell? ⟨w.heap.size, 0, none⟩ = some (.int .i64 50) := by rw [hwf]; exact World.cell?_setCell_same _ _ _ hc
    have hbel : Below w.heap.size w wf := by rw [hwf]; exact HB.out.setCell (p := ⟨w.heap.size, 0, none⟩) (Nat.le_refl _) _
    clear hwf hc hz hw
    simp [Leaves, settle, results, Try.results18, go_sem, hcell]
    exact hbel
  · obtain ⟨hc, hz, hw⟩ := face_var (hb1)
    have HB := Lib.hid hw
    refine leaves_cons (f := 40) (args := #[.pointer (some ⟨w.heap.size, 0, none⟩)]) (by simp) (by simp [go_sem]) ?_
    refine (catchWidths ⟨w.heap.size, 0, none⟩ 0 50 [] _ hc hz).mono ?_
    rintro e u' wf ⟨rfl, rfl, hwf⟩
    have hcell : wf.cell? ⟨w.heap.size, 0, none⟩ = some (.int .i64 50) := by rw [hwf]; exact World.cell?_setCell_same _ _ _ hc
    have hbel : Below w.heap.size w wf := by rw [hwf]; exact HB.out.setCell (p := ⟨w.heap.size, 0, none⟩) (Nat.le_refl _) _
    clear hwf hc hz hw
    simp [Leaves, settle, results, Try.results18, go_sem, hcell]
    exact hbel

set_option maxHeartbeats 8000000 in
set_option maxRecDepth 20000 in
theorem sfntWidths_any (w : World) (va vb vc : Value) (a b c : List Int) (hA : AllB a) (hB : AllB b) (hC : AllB c) (hva : NumZ .u8 w va a) (hvb : NumZ .u8 w vb b) (hvc : NumZ .u8 w vc c)
    (na : ∀ n c, va = .slice none n c → n = 0 ∧ c = 0) (nb : ∀ n c, vb = .slice none n c → n = 0 ∧ c = 0) (nc : ∀ n c, vc = .slice none n c → n = 0 ∧ c = 0) (l1 : a.length ≤ 140737488355328) (l2 : b.length ≤ 140737488355328) (l3 : c.length ≤ 140737488355328) :
    Calls Try.prog 6 #[va, vb, vc] w fun e w' => e = .returned (.bool true) ∧ Below w.heap.size w w' := by
  have HW := Lib.hid (fun w => works5_any w)
  have HVA := Lib.hid hva
  have HVB := Lib.hid hvb
  have HVC := Lib.hid hvc
  have HNA := Lib.hid na
  have HNB := Lib.hid nb
  have HNC := Lib.hid nc
  obtain ⟨Aa, ca, rfl, _, _, _⟩ := hva
  obtain ⟨Ab, cb, rfl, _, _, _⟩ := hvb
  obtain ⟨Ac, cc, rfl, _, _, _⟩ := hvc
  obtain ⟨N, hN⟩ : ∃ N, N = a.length := ⟨_, rfl⟩
  obtain ⟨M, hM⟩ : ∃ M, M = b.length := ⟨_, rfl⟩
  obtain ⟨K, hK⟩ : ∃ K, K = c.length := ⟨_, rfl⟩
  rw [← hN] at HVA HNA l1 ⊢
  rw [← hM] at HVB HNB l2 ⊢
  rw [← hK] at HVC HNC l3 ⊢
  obtain ⟨s, hs⟩ : ∃ s, s = N + M := ⟨_, rfl⟩
  obtain ⟨t, ht⟩ : ∃ t, t = s + K := ⟨_, rfl⟩
  have q1 : IntKind.i64.wrap ((N : Int) + (M : Int)) = (s : Int) := by rw [IntKind.wrap_i64]; omega
  have q2 : IntKind.i64.wrap ((s : Int) + (K : Int)) = (t : Int) := by rw [IntKind.wrap_i64]; omega
  by_cases h2 : 2000 < t
  · have b1 : (2000 < (t : Int)) = True := eq_true (by omega)
    clear h2 hN hM hK hs ht na nb nc l1 l2 l3 hA hB hC
    go_enter Try.func6, Try.ntmps6
    go_wp2_with fail
    refine (HW.out _).mono ?_
    rintro e w1 ⟨rfl, hb⟩
    have HB := Lib.hid hb
    clear hb
    go_wp2_with fail
    go_ret
    exact ⟨rfl, HB.out⟩
  · have b1 : (2000 < (t : Int)) = False := eq_false (by omega)
    have HOA : Hid (∀ wx, Below w.heap.size w wx → Calls Try.prog 16 #[.slice Aa N ca] wx fun e w' => Below wx.heap.size wx w' ∧ ∃ r, e = .returned r ∧ RdZ w' r a) := Lib.hid (fun wx hb => open_any wx _ a (HVA.out.below hb) HNA.out (by omega))
    have HOB : Hid (∀ wx, Below w.heap.size w wx → Calls Try.prog 16 #[.slice Ab M cb] wx fun e w' => Below wx.heap.size wx w' ∧ ∃ r, e = .returned r ∧ RdZ w' r b) := Lib.hid (fun wx hx => open_any wx _ b (HVB.out.below hx) HNB.out (by omega))
    have HOC : Hid (∀ wx, Below w.heap.size w wx → Calls Try.prog 16 #[.slice Ac K cc] wx fun e w' => Below wx.heap.size wx w' ∧ ∃ r, e = .returned r ∧ RdZ w' r c) := Lib.hid (fun wx hx => open_any wx _ c (HVC.out.below hx) HNC.out (by omega))
    have HP : Hid (∀ wx ra rb rc, RdZ wx ra a → RdZ wx rb b → RdZ wx rc c → Calls Try.prog 18 #[ra, rb, rc] wx fun e w' => Below wx.heap.size wx w' ∧ ∃ r, e = .returned (.tuple #[r, .int .i16 (widthsS a b c).2.1, .int .i16 (widthsS a b c).2.2.1, .int .i64 (widthsS a b c).2.2.2]) ∧ NumZ .u16 w' r (widthsS a b c).1) := Lib.hid (fun wx ra rb rc h1 h2 h3 => widthsP_any wx ra rb rc a b c h1 h2 h3 hA hB hC (by omega) (by omega))
    have HPN : Hid (∀ wx ra rc, RdZ wx ra a → Calls Try.prog 18 #[ra, .pointer none, rc] wx fun e w' => Below wx.heap.size wx w' ∧ e = .returned (.tuple #[.slice none 0 0, .int .i16 0, .int .i16 0, .int .i64 50])) := Lib.hid (fun wx ra rc h1 => widthsP_nil wx ra rc a h1 hA (by omega))
    have HR : Hid (∀ wx, Below w.heap.size w wx → Calls Try.prog 19 #[.slice Aa N ca, .slice Ab M cb, .slice Ac K cc] wx fun e w' => Below wx.heap.size wx w' ∧ ∃ r, e = .returned (.tuple #[r, .int .i16 (widthsS a b c).2.1, .int .i16 (widthsS a b c).2.2.1, .int .i64 (widthsS a b c).2.2.2]) ∧ NumZ .u16 w' r (widthsS a b c).1) := Lib.hid (fun wx hx => refWidths_any wx _ _ _ a b c (HVA.out.below hx) (HVB.out.below hx) (HVC.out.below hx) hA hB hC (by omega) (by omega) (by omega))
    have hwl : (widthsS a b c).1.length ≤ 1000000 := by
      have h := numAt_b hA 4 2
      unfold widthsS
      split
      · simp
      · simp [advL]; omega
    have HSW : Hid (∀ wx x y, NumZ .u16 wx x (widthsS a b c).1 → NumZ .u16 wx y (widthsS a b c).1 → Calls Try.prog 20 #[x, y] wx fun e w' => e = .returned (.bool true) ∧ Below wx.heap.size wx w') := Lib.hid (fun wx x y h1 h2 => sameH_any _ x y wx h1 h2 hwl)
    obtain ⟨v1, hv1⟩ : ∃ v, v = (widthsS a b c).1 := ⟨_, rfl⟩
    rw [← hv1] at HP HR HSW
    generalize (widthsS a b c).2.1 = v2 at HP HR
    generalize (widthsS a b c).2.2.1 = v3 at HP HR
    generalize (widthsS a b c).2.2.2 = v4 at HP HR
    have e2 : (v2 == v2) = true := by simp
    have e3 : (v3 == v3) = true := by simp
    have e4 : (v4 == v4) = true := by simp
    clear h2 hN hM hK hs ht na nb nc l1 l2 l3 hA hB hC hwl hv1
    go_enter Try.func6, Try.ntmps6
    go_wp2_with fail
    refine (HOA.out _ (Below.refl _ w)).mono ?_
    rintro e w1 ⟨hb, ra, rfl, hra⟩
    have HB1 := Lib.hid hb
    have HRA1 := Lib.hid hra
    clear hb hra
    go_wp2_with fail
    refine (HOB.out _ HB1.out).mono ?_
    rintro e w2 ⟨hb, rb, rfl, hrb⟩
    have HB2 := Lib.hid (HB1.out.trans (hb.mono HB1.out.size))
    have HRA2 := Lib.hid (HRA1.out.below hb)
    have HRB2 := Lib.hid hrb
    clear hb hrb
    go_wp2_with fail
    refine (HOC.out _ HB2.out).mono ?_
    rintro e w3 ⟨hb, rc, rfl, hrc⟩
    have HB3 := Lib.hid (HB2.out.trans (hb.mono HB2.out.size))
    have HRA3 := Lib.hid (HRA2.out.below hb)
    have HRB3 := Lib.hid (HRB2.out.below hb)
    have HRC3 := Lib.hid hrc
    clear hb hrc
    go_wp2_with fail
    refine (HP.out _ _ _ _ HRA3.out HRB3.out HRC3.out).mono ?_
    rintro e w4 ⟨hb, r1, rfl, hn1⟩
    have HB4 := Lib.hid (HB3.out.trans (hb.mono HB3.out.size))
    have HN4 := Lib.hid hn1
    clear hb hn1
    go_wp2_with fail
    refine (HR.out _ HB4.out).mono ?_
    rintro e w5 ⟨hb, r2, rfl, hn2⟩
    have HB5 := Lib.hid (HB4.out.trans (hb.mono HB4.out.size))
    have HN5 := Lib.hid (HN4.out.below hb)
    have HK5 := Lib.hid hn2
    clear hb hn2
    go_wp2_with fail
    refine (HOA.out _ HB5.out).mono ?_
    rintro e w6 ⟨hb, ra2, rfl, hra⟩
    have HB6 := Lib.hid (HB5.out.trans (hb.mono HB5.out.size))
    have HN6 := Lib.hid (HN5.out.below hb)
    have HK6 := Lib.hid (HK5.out.below hb)
    have HRA6 := Lib.hid hra
    clear hb hra
    go_wp2_with fail
    refine (HOC.out _ HB6.out).mono ?_
    rintro e w7 ⟨hb, rc2, rfl, hrc⟩
    have HB7 := Lib.hid (HB6.out.trans (hb.mono HB6.out.size))
    have HN7 := Lib.hid (HN6.out.below hb)
    have HK7 := Lib.hid (HK6.out.below hb)
    have HRA7 := Lib.hid (HRA6.out.below hb)
    clear hb hrc
    go_wp2_with fail
    refine (HPN.out _ _ _ HRA7.out).mono ?_
    rintro e w8 ⟨hb, rfl⟩
    have HB8 := Lib.hid (HB7.out.trans (hb.mono HB7.out.size))
    have HN8 := Lib.hid (HN7.out.below hb)
    have HK8 := Lib.hid (HK7.out.below hb)
    clear hb
    go_wp2_with fail
    refine (HSW.out _ _ _ HN8.out HK8.out).mono ?_
    rintro e w9 ⟨rfl, hb⟩
    have HB9 := Lib.hid (HB8.out.trans (hb.mono HB8.out.size))
    clear hb
    go_wp2_with fail
    refine (HW.out _).mono ?_
    rintro e w10 ⟨rfl, hb⟩
    have HB10 := Lib.hid (HB9.out.trans (hb.mono HB9.out.size))
    clear hb
    go_wp2_with fail
    go_ret
    exact ⟨rfl, HB10.out⟩
end Go.Proofs.Ytlpnikolnohcaaa
