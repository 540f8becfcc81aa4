/-
  The rules, walked.
-/
import Derived.Test.YtdbimchiecdkoaaGreatPJ
namespace Go.Proofs.YtdbimchiecdkoaaGreat
open Go Go.RowKit
set_option maxRecDepth 100000
set_option maxHeartbeats 4000000
set_option linter.unusedVariables false
def qBehindBreak (N : Nat) (zb : List Int) (zg : List Int) (zl : Int) (zn : Int) (p0_4 : Int) (p0_5 : Int) (p0_6 : Int) (p0_7 : Int) (p0_8 : Int) (p0_9 : Bool) (p0_10 : Bool) (p0_11 : Bool) : Option (Int × Bool) :=
 ((pIs N zb zg zl zn p0_4 p0_5 p0_6 p0_7 p0_8 p0_9 p0_10 p0_11 zn ([1])).bind fun b11 => some (2, b11))
def qBehindBreak_R (zb : List Int) (zg : List Int) (zl : Int) (zn : Int) (p0_4 : Int) (p0_5 : Int) (p0_6 : Int) (p0_7 : Int) (p0_8 : Int) (p0_9 : Bool) (p0_10 : Bool) (p0_11 : Bool) (g0 : Nat) (zA : Option Addr) (zc : Nat) (A0_1 : Option Addr) (c0_1 : Nat) (r : Int × Bool) (w0 : World) (v : Value) (w : World) : Prop := v = .tuple #[.int .u8 r.1, .bool r.2] ∧ St (foots [plE g0 zA zc A0_1 c0_1 zb zg zl zn p0_4 p0_5 p0_6 p0_7 p0_8 p0_9 p0_10 p0_11]) w0 w [plE g0 zA zc A0_1 c0_1 zb zg zl zn p0_4 p0_5 p0_6 p0_7 p0_8 p0_9 p0_10 p0_11]
theorem qBehindBreak_ok (N : Nat) (zb : List Int) (zg : List Int) (zl : Int) (zn : Int) (p0_4 : Int) (p0_5 : Int) (p0_6 : Int) (p0_7 : Int) (p0_8 : Int) (p0_9 : Bool) (p0_10 : Bool) (p0_11 : Bool) (g0 : Nat) (zA : Option Addr) (zc : Nat) (A0_1 : Option Addr) (c0_1 : Nat) (r : Int × Bool) (hF : qBehindBreak N zb zg zl zn p0_4 p0_5 p0_6 p0_7 p0_8 p0_9 p0_10 p0_11 = some r) (w0 : World) (hv0_0 : Vw (foots [plE g0 zA zc A0_1 c0_1 zb zg zl zn p0_4 p0_5 p0_6 p0_7 p0_8 p0_9 p0_10 p0_11]) .i32 w0 zA zc zb) (hv0_1 : Vw (foots [plE g0 zA zc A0_1 c0_1 zb zg zl zn p0_4 p0_5 p0_6 p0_7 p0_8 p0_9 p0_10 p0_11]) .u8 w0 A0_1 c0_1 zg) (hl : St (foots [plE g0 zA zc A0_1 c0_1 zb zg zl zn p0_4 p0_5 p0_6 p0_7 p0_8 p0_9 p0_10 p0_11]) w0 w0 [plE g0 zA zc A0_1 c0_1 zb zg zl zn p0_4 p0_5 p0_6 p0_7 p0_8 p0_9 p0_10 p0_11]) :
  Calls Tryz.prog 22 #[.pointer (some ⟨g0, 0, none⟩)] w0 fun e w => ∃ v, e = .returned v ∧ qBehindBreak_R zb zg zl zn p0_4 p0_5 p0_6 p0_7 p0_8 p0_9 p0_10 p0_11 g0 zA zc A0_1 c0_1 r w0 v w := by
 have hS0 := hl
 unfold qBehindBreak at hF
 refine calls_of Tryz.func22 rfl ⟨((vP g0) :: un 12 ([])).toArray, []⟩ (by kernel_rfl) (gx_seq (fun K1 hK2 => gx_region (gx_k (.int .u8 0) w0 (gx_k (.bool false) w0 (gx_nil (gx_thenN (hK2 _ _ (gx_seq (fun K3 hK4 => ?_)))))))))
 refine gdst (fun w => St (foots [plE g0 zA zc A0_1 c0_1 zb zg zl zn p0_4 p0_5 p0_6 p0_7 p0_8 p0_9 p0_10 p0_11]) w0 w [plE g0 zA zc A0_1 c0_1 zb zg zl zn p0_4 p0_5 p0_6 p0_7 p0_8 p0_9 p0_10 p0_11]) 11 ?_
 have hS6 := hS0.drew
 generalize w0.drew = w5 at hS6 ⊢
 refine gv1 0 4 (vP g0) rfl hS6 (gv1 1 5 (vP g0) rfl hS6 (gv1 2 6 (vP g0) rfl hS6 (gv1 3 7 (vP g0) rfl hS6 (gv1 4 8 (vP g0) rfl hS6 (gv1 5 9 (vQ g0 3) rfl hS6 (gu1 6 10 (i6 zn) rfl hS6 (fun w hSw => rl1 (hSw.box 0 rfl 3 rfl)) (gdR 7 ⟨some 11, _, _, _, _, _⟩ rfl (st_made .u8 5 [1] hS6 (by show 1 ≤ 1000000000; decide) (by kernel_rfl)) ?_)))))))
 rintro _ w7 ⟨rfl, hS8⟩
 have hS8 : St _ _ w7 [plE g0 zA zc A0_1 c0_1 zb zg zl zn p0_4 p0_5 p0_6 p0_7 p0_8 p0_9 p0_10 p0_11, rowE .u8 5 (some ⟨w5.heap.size, 0, none⟩) 1 ([1])] := hS8
 refine ⟨(hS8.pick [0] rfl rfl), ?_⟩
 have hP9 : St _ _ w7 ([plE g0 zA zc A0_1 c0_1 zb zg zl zn p0_4 p0_5 p0_6 p0_7 p0_8 p0_9 p0_10 p0_11] ++ [rowE .u8 5 (some ⟨w5.heap.size, 0, none⟩) 1 ([1])]) := hS8
 obtain ⟨b11, hc10, hF⟩ := bind_in hF
 try dsimp only at hF
 refine gdC 8 ⟨some 12, _, _, _, _, _⟩ _ rfl (by kernel_rfl) (pIs_ok N zb zg zl zn p0_4 p0_5 p0_6 p0_7 p0_8 p0_9 p0_10 p0_11 zn ([1]) g0 zA zc A0_1 c0_1 (some ⟨w5.heap.size, 0, none⟩) 1 _ hc10 w7 (hP9.vwA hv0_0) (hP9.vwA hv0_1) (hP9.vwB 0 rfl) hP9.part) ?_
 rintro _ w12 ⟨rfl, hT14⟩
 have hS13 : St _ _ w12 [rowE .u8 5 (some ⟨w5.heap.size, 0, none⟩) 1 ([1]), plE g0 zA zc A0_1 c0_1 zb zg zl zn p0_4 p0_5 p0_6 p0_7 p0_8 p0_9 p0_10 p0_11] := hP9.lendN _ hT14
 refine ⟨(hS13.pick [1] rfl rfl), gv1 9 2 (.int .u8 2) rfl (hS13.pick [1] rfl rfl) (gv1 10 3 (.bool b11) rfl (hS13.pick [1] rfl rfl) (gd_done (by kernel_rfl) (gx_thenN (hK4 _ _ (gx_ret ?_)))))⟩
 obtain rfl := sj hF
 exact gxF (.tuple #[.int .u8 2, .bool b11]) ⟨_, rfl, rfl, (hS13.pick [1] rfl rfl)⟩
def qWithinReturn (N : Nat) (zb : List Int) (zg : List Int) (zl : Int) (zn : Int) (p0_4 : Int) (p0_5 : Int) (p0_6 : Int) (p0_7 : Int) (p0_8 : Int) (p0_9 : Bool) (p0_10 : Bool) (p0_11 : Bool) : Option (Int × Bool) :=
 ((pIs N zb zg zl zn p0_4 p0_5 p0_6 p0_7 p0_8 p0_9 p0_10 p0_11 zn ([2])).bind fun b11 => (match b11 with | true => ((pIs N zb zg zl zn p0_4 p0_5 p0_6 p0_7 p0_8 p0_9 p0_10 p0_11 p0_4 ([3])).bind fun b19 => some (0, b19)) | false => some (0, false)))
def qWithinReturn_R (zb : List Int) (zg : List Int) (zl : Int) (zn : Int) (p0_4 : Int) (p0_5 : Int) (p0_6 : Int) (p0_7 : Int) (p0_8 : Int) (p0_9 : Bool) (p0_10 : Bool) (p0_11 : Bool) (g0 : Nat) (zA : Option Addr) (zc : Nat) (A0_1 : Option Addr) (c0_1 : Nat) (r : Int × Bool) (w0 : World) (v : Value) (w : World) : Prop := v = .tuple #[.int .u8 r.1, .bool r.2] ∧ St (foots [plE g0 zA zc A0_1 c0_1 zb zg zl zn p0_4 p0_5 p0_6 p0_7 p0_8 p0_9 p0_10 p0_11]) w0 w [plE g0 zA zc A0_1 c0_1 zb zg zl zn p0_4 p0_5 p0_6 p0_7 p0_8 p0_9 p0_10 p0_11]
theorem qWithinReturn_ok (N : Nat) (zb : List Int) (zg : List Int) (zl : Int) (zn : Int) (p0_4 : Int) (p0_5 : Int) (p0_6 : Int) (p0_7 : Int) (p0_8 : Int) (p0_9 : Bool) (p0_10 : Bool) (p0_11 : Bool) (g0 : Nat) (zA : Option Addr) (zc : Nat) (A0_1 : Option Addr) (c0_1 : Nat) (r : Int × Bool) (hF : qWithinReturn N zb zg zl zn p0_4 p0_5 p0_6 p0_7 p0_8 p0_9 p0_10 p0_11 = some r) (w0 : World) (hv0_0 : Vw (foots [plE g0 zA zc A0_1 c0_1 zb zg zl zn p0_4 p0_5 p0_6 p0_7 p0_8 p0_9 p0_10 p0_11]) .i32 w0 zA zc zb) (hv0_1 : Vw (foots [plE g0 zA zc A0_1 c0_1 zb zg zl zn p0_4 p0_5 p0_6 p0_7 p0_8 p0_9 p0_10 p0_11]) .u8 w0 A0_1 c0_1 zg) (hl : St (foots [plE g0 zA zc A0_1 c0_1 zb zg zl zn p0_4 p0_5 p0_6 p0_7 p0_8 p0_9 p0_10 p0_11]) w0 w0 [plE g0 zA zc A0_1 c0_1 zb zg zl zn p0_4 p0_5 p0_6 p0_7 p0_8 p0_9 p0_10 p0_11]) :
  Calls Tryz.prog 23 #[.pointer (some ⟨g0, 0, none⟩)] w0 fun e w => ∃ v, e = .returned v ∧ qWithinReturn_R zb zg zl zn p0_4 p0_5 p0_6 p0_7 p0_8 p0_9 p0_10 p0_11 g0 zA zc A0_1 c0_1 r w0 v w := by
 have hS0 := hl
 unfold qWithinReturn at hF
 refine calls_of Tryz.func23 rfl ⟨((vP g0) :: un 23 ([])).toArray, []⟩ (by kernel_rfl) (gx_seq (fun K1 hK2 => gx_region (gx_k (.int .u8 0) w0 (gx_k (.bool false) w0 (gx_nil (gx_thenN (hK2 _ _ (gx_seq (fun K3 hK4 => ?_)))))))))
 refine gdst (fun w => St (foots [plE g0 zA zc A0_1 c0_1 zb zg zl zn p0_4 p0_5 p0_6 p0_7 p0_8 p0_9 p0_10 p0_11]) w0 w [plE g0 zA zc A0_1 c0_1 zb zg zl zn p0_4 p0_5 p0_6 p0_7 p0_8 p0_9 p0_10 p0_11]) 22 ?_
 have hS6 := hS0.drew
 generalize w0.drew = w5 at hS6 ⊢
 refine gv1 0 4 (vP g0) rfl hS6 (gv1 1 5 (vP g0) rfl hS6 (gv1 2 6 (vP g0) rfl hS6 (gv1 3 7 (vP g0) rfl hS6 (gv1 4 8 (vP g0) rfl hS6 (gv1 5 9 (vQ g0 3) rfl hS6 (gu1 6 10 (i6 zn) rfl hS6 (fun w hSw => rl1 (hSw.box 0 rfl 3 rfl)) (gdR 7 ⟨some 11, _, _, _, _, _⟩ rfl (st_made .u8 5 [2] hS6 (by show 1 ≤ 1000000000; decide) (by kernel_rfl)) ?_)))))))
 rintro _ w7 ⟨rfl, hS8⟩
 have hS8 : St _ _ w7 [plE g0 zA zc A0_1 c0_1 zb zg zl zn p0_4 p0_5 p0_6 p0_7 p0_8 p0_9 p0_10 p0_11, rowE .u8 5 (some ⟨w5.heap.size, 0, none⟩) 1 ([2])] := hS8
 refine ⟨(hS8.pick [0] rfl rfl), ?_⟩
 have hP9 : St _ _ w7 ([plE g0 zA zc A0_1 c0_1 zb zg zl zn p0_4 p0_5 p0_6 p0_7 p0_8 p0_9 p0_10 p0_11] ++ [rowE .u8 5 (some ⟨w5.heap.size, 0, none⟩) 1 ([2])]) := hS8
 obtain ⟨b11, hc10, hF⟩ := bind_in hF
 try dsimp only at hF
 refine gdC 8 ⟨some 12, _, _, _, _, _⟩ _ rfl (by kernel_rfl) (pIs_ok N zb zg zl zn p0_4 p0_5 p0_6 p0_7 p0_8 p0_9 p0_10 p0_11 zn ([2]) g0 zA zc A0_1 c0_1 (some ⟨w5.heap.size, 0, none⟩) 1 _ hc10 w7 (hP9.vwA hv0_0) (hP9.vwA hv0_1) (hP9.vwB 0 rfl) hP9.part) ?_
 rintro _ w12 ⟨rfl, hT14⟩
 have hS13 : St _ _ w12 [rowE .u8 5 (some ⟨w5.heap.size, 0, none⟩) 1 ([2]), plE g0 zA zc A0_1 c0_1 zb zg zl zn p0_4 p0_5 p0_6 p0_7 p0_8 p0_9 p0_10 p0_11] := hP9.lendN _ hT14
 refine ⟨(hS13.pick [1] rfl rfl), gv1 9 13 (.bool b11) rfl (hS13.pick [1] rfl rfl) ?_⟩
 rcases b11 with _ | _
 try dsimp only at hF
 refine gz1 10 14 rfl (hS13.pick [1] rfl rfl) (gz1 11 15 rfl (hS13.pick [1] rfl rfl) (gz1 12 16 rfl (hS13.pick [1] rfl rfl) (gz1 13 17 rfl (hS13.pick [1] rfl rfl) (gz1 14 18 rfl (hS13.pick [1] rfl rfl) (gz1 15 19 rfl (hS13.pick [1] rfl rfl) (gz1 16 20 rfl (hS13.pick [1] rfl rfl) (gz1 17 21 rfl (hS13.pick [1] rfl rfl) ?_)))))))
 refine gz1 18 22 rfl (hS13.pick [1] rfl rfl) (gv1 19 23 (.bool false) rfl (hS13.pick [1] rfl rfl) (gv1 20 2 (.int .u8 0) rfl (hS13.pick [1] rfl rfl) (gv1 21 3 (.bool false) rfl (hS13.pick [1] rfl rfl) (gd_done (by kernel_rfl) (gx_thenN (hK4 _ _ (gx_ret ?_)))))))
 obtain rfl := sj hF
 exact gxF (.tuple #[.int .u8 0, .bool false]) ⟨_, rfl, rfl, (hS13.pick [1] rfl rfl)⟩
 try dsimp only at hF
 refine gv1 10 14 (vP g0) rfl (hS13.pick [1] rfl rfl) (gv1 11 15 (vP g0) rfl (hS13.pick [1] rfl rfl) (gv1 12 16 (vP g0) rfl (hS13.pick [1] rfl rfl) (gv1 13 17 (vP g0) rfl (hS13.pick [1] rfl rfl) (gv1 14 18 (vP g0) rfl (hS13.pick [1] rfl rfl) (gv1 15 19 (vQ g0 4) rfl (hS13.pick [1] rfl rfl) (gu1 16 20 (i6 p0_4) rfl (hS13.pick [1] rfl rfl) (fun w hSw => rl1 (hSw.box 0 rfl 4 rfl)) (gdR 17 ⟨some 21, _, _, _, _, _⟩ rfl (st_made .u8 5 [3] hS13 (by show 1 ≤ 1000000000; decide) (by kernel_rfl)) ?_)))))))
 rintro _ w15 ⟨rfl, hS16⟩
 have hS16 : St _ _ w15 [rowE .u8 5 (some ⟨w5.heap.size, 0, none⟩) 1 ([2]), plE g0 zA zc A0_1 c0_1 zb zg zl zn p0_4 p0_5 p0_6 p0_7 p0_8 p0_9 p0_10 p0_11, rowE .u8 5 (some ⟨w12.heap.size, 0, none⟩) 1 ([3])] := hS16
 refine ⟨(hS16.pick [1] rfl rfl), ?_⟩
 have hP17 : St _ _ w15 ([plE g0 zA zc A0_1 c0_1 zb zg zl zn p0_4 p0_5 p0_6 p0_7 p0_8 p0_9 p0_10 p0_11] ++ [rowE .u8 5 (some ⟨w5.heap.size, 0, none⟩) 1 ([2]), rowE .u8 5 (some ⟨w12.heap.size, 0, none⟩) 1 ([3])]) := hS16.pick [1, 0, 2] rfl rfl
 obtain ⟨b19, hc18, hF⟩ := bind_in hF
 try dsimp only at hF
 refine gdC 18 ⟨some 22, _, _, _, _, _⟩ _ rfl (by kernel_rfl) (pIs_ok N zb zg zl zn p0_4 p0_5 p0_6 p0_7 p0_8 p0_9 p0_10 p0_11 p0_4 ([3]) g0 zA zc A0_1 c0_1 (some ⟨w12.heap.size, 0, none⟩) 1 _ hc18 w15 (hP17.vwA hv0_0) (hP17.vwA hv0_1) (hP17.vwB 1 rfl) hP17.part) ?_
 rintro _ w20 ⟨rfl, hT22⟩
 have hS21 : St _ _ w20 [rowE .u8 5 (some ⟨w5.heap.size, 0, none⟩) 1 ([2]), rowE .u8 5 (some ⟨w12.heap.size, 0, none⟩) 1 ([3]), plE g0 zA zc A0_1 c0_1 zb zg zl zn p0_4 p0_5 p0_6 p0_7 p0_8 p0_9 p0_10 p0_11] := hP17.lendN _ hT22
 refine ⟨(hS21.pick [2] rfl rfl), gv1 19 23 (.bool b19) rfl (hS21.pick [2] rfl rfl) (gv1 20 2 (.int .u8 0) rfl (hS21.pick [2] rfl rfl) (gv1 21 3 (.bool b19) rfl (hS21.pick [2] rfl rfl) (gd_done (by kernel_rfl) (gx_thenN (hK4 _ _ (gx_ret ?_))))))⟩
 obtain rfl := sj hF
 exact gxF (.tuple #[.int .u8 0, .bool b19]) ⟨_, rfl, rfl, (hS21.pick [2] rfl rfl)⟩
def qBehindLine (N : Nat) (zb : List Int) (zg : List Int) (zl : Int) (zn : Int) (p0_4 : Int) (p0_5 : Int) (p0_6 : Int) (p0_7 : Int) (p0_8 : Int) (p0_9 : Bool) (p0_10 : Bool) (p0_11 : Bool) : Option (Int × Bool) :=
 ((pIs N zb zg zl zn p0_4 p0_5 p0_6 p0_7 p0_8 p0_9 p0_10 p0_11 zn ([2, 3, 4])).bind fun b11 => some (2, b11))
def qBehindLine_R (zb : List Int) (zg : List Int) (zl : Int) (zn : Int) (p0_4 : Int) (p0_5 : Int) (p0_6 : Int) (p0_7 : Int) (p0_8 : Int) (p0_9 : Bool) (p0_10 : Bool) (p0_11 : Bool) (g0 : Nat) (zA : Option Addr) (zc : Nat) (A0_1 : Option Addr) (c0_1 : Nat) (r : Int × Bool) (w0 : World) (v : Value) (w : World) : Prop := v = .tuple #[.int .u8 r.1, .bool r.2] ∧ St (foots [plE g0 zA zc A0_1 c0_1 zb zg zl zn p0_4 p0_5 p0_6 p0_7 p0_8 p0_9 p0_10 p0_11]) w0 w [plE g0 zA zc A0_1 c0_1 zb zg zl zn p0_4 p0_5 p0_6 p0_7 p0_8 p0_9 p0_10 p0_11]
theorem qBehindLine_ok (N : Nat) (zb : List Int) (zg : List Int) (zl : Int) (zn : Int) (p0_4 : Int) (p0_5 : Int) (p0_6 : Int) (p0_7 : Int) (p0_8 : Int) (p0_9 : Bool) (p0_10 : Bool) (p0_11 : Bool) (g0 : Nat) (zA : Option Addr) (zc : Nat) (A0_1 : Option Addr) (c0_1 : Nat) (r : Int × Bool) (hF : qBehindLine N zb zg zl zn p0_4 p0_5 p0_6 p0_7 p0_8 p0_9 p0_10 p0_11 = some r) (w0 : World) (hv0_0 : Vw (foots [plE g0 zA zc A0_1 c0_1 zb zg zl zn p0_4 p0_5 p0_6 p0_7 p0_8 p0_9 p0_10 p0_11]) .i32 w0 zA zc zb) (hv0_1 : Vw (foots [plE g0 zA zc A0_1 c0_1 zb zg zl zn p0_4 p0_5 p0_6 p0_7 p0_8 p0_9 p0_10 p0_11]) .u8 w0 A0_1 c0_1 zg) (hl : St (foots [plE g0 zA zc A0_1 c0_1 zb zg zl zn p0_4 p0_5 p0_6 p0_7 p0_8 p0_9 p0_10 p0_11]) w0 w0 [plE g0 zA zc A0_1 c0_1 zb zg zl zn p0_4 p0_5 p0_6 p0_7 p0_8 p0_9 p0_10 p0_11]) :
  Calls Tryz.prog 24 #[.pointer (some ⟨g0, 0, none⟩)] w0 fun e w => ∃ v, e = .returned v ∧ qBehindLine_R zb zg zl zn p0_4 p0_5 p0_6 p0_7 p0_8 p0_9 p0_10 p0_11 g0 zA zc A0_1 c0_1 r w0 v w := by
 have hS0 := hl
 unfold qBehindLine at hF
 refine calls_of Tryz.func24 rfl ⟨((vP g0) :: un 12 ([])).toArray, []⟩ (by kernel_rfl) (gx_seq (fun K1 hK2 => gx_region (gx_k (.int .u8 0) w0 (gx_k (.bool false) w0 (gx_nil (gx_thenN (hK2 _ _ (gx_seq (fun K3 hK4 => ?_)))))))))
 refine gdst (fun w => St (foots [plE g0 zA zc A0_1 c0_1 zb zg zl zn p0_4 p0_5 p0_6 p0_7 p0_8 p0_9 p0_10 p0_11]) w0 w [plE g0 zA zc A0_1 c0_1 zb zg zl zn p0_4 p0_5 p0_6 p0_7 p0_8 p0_9 p0_10 p0_11]) 11 ?_
 have hS6 := hS0.drew
 generalize w0.drew = w5 at hS6 ⊢
 refine gv1 0 4 (vP g0) rfl hS6 (gv1 1 5 (vP g0) rfl hS6 (gv1 2 6 (vP g0) rfl hS6 (gv1 3 7 (vP g0) rfl hS6 (gv1 4 8 (vP g0) rfl hS6 (gv1 5 9 (vQ g0 3) rfl hS6 (gu1 6 10 (i6 zn) rfl hS6 (fun w hSw => rl1 (hSw.box 0 rfl 3 rfl)) (gdR 7 ⟨some 11, _, _, _, _, _⟩ rfl (st_made .u8 5 [2, 3, 4] hS6 (by show 3 ≤ 1000000000; decide) (by kernel_rfl)) ?_)))))))
 rintro _ w7 ⟨rfl, hS8⟩
 have hS8 : St _ _ w7 [plE g0 zA zc A0_1 c0_1 zb zg zl zn p0_4 p0_5 p0_6 p0_7 p0_8 p0_9 p0_10 p0_11, rowE .u8 5 (some ⟨w5.heap.size, 0, none⟩) 3 ([2, 3, 4])] := hS8
 refine ⟨(hS8.pick [0] rfl rfl), ?_⟩
 have hP9 : St _ _ w7 ([plE g0 zA zc A0_1 c0_1 zb zg zl zn p0_4 p0_5 p0_6 p0_7 p0_8 p0_9 p0_10 p0_11] ++ [rowE .u8 5 (some ⟨w5.heap.size, 0, none⟩) 3 ([2, 3, 4])]) := hS8
 obtain ⟨b11, hc10, hF⟩ := bind_in hF
 try dsimp only at hF
 refine gdC 8 ⟨some 12, _, _, _, _, _⟩ _ rfl (by kernel_rfl) (pIs_ok N zb zg zl zn p0_4 p0_5 p0_6 p0_7 p0_8 p0_9 p0_10 p0_11 zn ([2, 3, 4]) g0 zA zc A0_1 c0_1 (some ⟨w5.heap.size, 0, none⟩) 3 _ hc10 w7 (hP9.vwA hv0_0) (hP9.vwA hv0_1) (hP9.vwB 0 rfl) hP9.part) ?_
 rintro _ w12 ⟨rfl, hT14⟩
 have hS13 : St _ _ w12 [rowE .u8 5 (some ⟨w5.heap.size, 0, none⟩) 3 ([2, 3, 4]), plE g0 zA zc A0_1 c0_1 zb zg zl zn p0_4 p0_5 p0_6 p0_7 p0_8 p0_9 p0_10 p0_11] := hP9.lendN _ hT14
 refine ⟨(hS13.pick [1] rfl rfl), gv1 9 2 (.int .u8 2) rfl (hS13.pick [1] rfl rfl) (gv1 10 3 (.bool b11) rfl (hS13.pick [1] rfl rfl) (gd_done (by kernel_rfl) (gx_thenN (hK4 _ _ (gx_ret ?_)))))⟩
 obtain rfl := sj hF
 exact gxF (.tuple #[.int .u8 2, .bool b11]) ⟨_, rfl, rfl, (hS13.pick [1] rfl rfl)⟩
def qAheadOfSpace (N : Nat) (zb : List Int) (zg : List Int) (zl : Int) (zn : Int) (p0_4 : Int) (p0_5 : Int) (p0_6 : Int) (p0_7 : Int) (p0_8 : Int) (p0_9 : Bool) (p0_10 : Bool) (p0_11 : Bool) : Option (Int × Bool) :=
 ((pIs N zb zg zl zn p0_4 p0_5 p0_6 p0_7 p0_8 p0_9 p0_10 p0_11 p0_4 ([1, 2, 3, 4, 5, 6])).bind fun b11 => some (0, b11))
def qAheadOfSpace_R (zb : List Int) (zg : List Int) (zl : Int) (zn : Int) (p0_4 : Int) (p0_5 : Int) (p0_6 : Int) (p0_7 : Int) (p0_8 : Int) (p0_9 : Bool) (p0_10 : Bool) (p0_11 : Bool) (g0 : Nat) (zA : Option Addr) (zc : Nat) (A0_1 : Option Addr) (c0_1 : Nat) (r : Int × Bool) (w0 : World) (v : Value) (w : World) : Prop := v = .tuple #[.int .u8 r.1, .bool r.2] ∧ St (foots [plE g0 zA zc A0_1 c0_1 zb zg zl zn p0_4 p0_5 p0_6 p0_7 p0_8 p0_9 p0_10 p0_11]) w0 w [plE g0 zA zc A0_1 c0_1 zb zg zl zn p0_4 p0_5 p0_6 p0_7 p0_8 p0_9 p0_10 p0_11]
theorem qAheadOfSpace_ok (N : Nat) (zb : List Int) (zg : List Int) (zl : Int) (zn : Int) (p0_4 : Int) (p0_5 : Int) (p0_6 : Int) (p0_7 : Int) (p0_8 : Int) (p0_9 : Bool) (p0_10 : Bool) (p0_11 : Bool) (g0 : Nat) (zA : Option Addr) (zc : Nat) (A0_1 : Option Addr) (c0_1 : Nat) (r : Int × Bool) (hF : qAheadOfSpace N zb zg zl zn p0_4 p0_5 p0_6 p0_7 p0_8 p0_9 p0_10 p0_11 = some r) (w0 : World) (hv0_0 : Vw (foots [plE g0 zA zc A0_1 c0_1 zb zg zl zn p0_4 p0_5 p0_6 p0_7 p0_8 p0_9 p0_10 p0_11]) .i32 w0 zA zc zb) (hv0_1 : Vw (foots [plE g0 zA zc A0_1 c0_1 zb zg zl zn p0_4 p0_5 p0_6 p0_7 p0_8 p0_9 p0_10 p0_11]) .u8 w0 A0_1 c0_1 zg) (hl : St (foots [plE g0 zA zc A0_1 c0_1 zb zg zl zn p0_4 p0_5 p0_6 p0_7 p0_8 p0_9 p0_10 p0_11]) w0 w0 [plE g0 zA zc A0_1 c0_1 zb zg zl zn p0_4 p0_5 p0_6 p0_7 p0_8 p0_9 p0_10 p0_11]) :
  Calls Tryz.prog 25 #[.pointer (some ⟨g0, 0, none⟩)] w0 fun e w => ∃ v, e = .returned v ∧ qAheadOfSpace_R zb zg zl zn p0_4 p0_5 p0_6 p0_7 p0_8 p0_9 p0_10 p0_11 g0 zA zc A0_1 c0_1 r w0 v w := by
 have hS0 := hl
 unfold qAheadOfSpace at hF
 refine calls_of Tryz.func25 rfl ⟨((vP g0) :: un 12 ([])).toArray, []⟩ (by kernel_rfl) (gx_seq (fun K1 hK2 => gx_region (gx_k (.int .u8 0) w0 (gx_k (.bool false) w0 (gx_nil (gx_thenN (hK2 _ _ (gx_seq (fun K3 hK4 => ?_)))))))))
 refine gdst (fun w => St (foots [plE g0 zA zc A0_1 c0_1 zb zg zl zn p0_4 p0_5 p0_6 p0_7 p0_8 p0_9 p0_10 p0_11]) w0 w [plE g0 zA zc A0_1 c0_1 zb zg zl zn p0_4 p0_5 p0_6 p0_7 p0_8 p0_9 p0_10 p0_11]) 11 ?_
 have hS6 := hS0.drew
 generalize w0.drew = w5 at hS6 ⊢
 refine gv1 0 4 (vP g0) rfl hS6 (gv1 1 5 (vP g0) rfl hS6 (gv1 2 6 (vP g0) rfl hS6 (gv1 3 7 (vP g0) rfl hS6 (gv1 4 8 (vP g0) rfl hS6 (gv1 5 9 (vQ g0 4) rfl hS6 (gu1 6 10 (i6 p0_4) rfl hS6 (fun w hSw => rl1 (hSw.box 0 rfl 4 rfl)) (gdR 7 ⟨some 11, _, _, _, _, _⟩ rfl (st_made .u8 5 [1, 2, 3, 4, 5, 6] hS6 (by show 6 ≤ 1000000000; decide) (by kernel_rfl)) ?_)))))))
 rintro _ w7 ⟨rfl, hS8⟩
 have hS8 : St _ _ w7 [plE g0 zA zc A0_1 c0_1 zb zg zl zn p0_4 p0_5 p0_6 p0_7 p0_8 p0_9 p0_10 p0_11, rowE .u8 5 (some ⟨w5.heap.size, 0, none⟩) 6 ([1, 2, 3, 4, 5, 6])] := hS8
 refine ⟨(hS8.pick [0] rfl rfl), ?_⟩
 have hP9 : St _ _ w7 ([plE g0 zA zc A0_1 c0_1 zb zg zl zn p0_4 p0_5 p0_6 p0_7 p0_8 p0_9 p0_10 p0_11] ++ [rowE .u8 5 (some ⟨w5.heap.size, 0, none⟩) 6 ([1, 2, 3, 4, 5, 6])]) := hS8
 obtain ⟨b11, hc10, hF⟩ := bind_in hF
 try dsimp only at hF
 refine gdC 8 ⟨some 12, _, _, _, _, _⟩ _ rfl (by kernel_rfl) (pIs_ok N zb zg zl zn p0_4 p0_5 p0_6 p0_7 p0_8 p0_9 p0_10 p0_11 p0_4 ([1, 2, 3, 4, 5, 6]) g0 zA zc A0_1 c0_1 (some ⟨w5.heap.size, 0, none⟩) 6 _ hc10 w7 (hP9.vwA hv0_0) (hP9.vwA hv0_1) (hP9.vwB 0 rfl) hP9.part) ?_
 rintro _ w12 ⟨rfl, hT14⟩
 have hS13 : St _ _ w12 [rowE .u8 5 (some ⟨w5.heap.size, 0, none⟩) 6 ([1, 2, 3, 4, 5, 6]), plE g0 zA zc A0_1 c0_1 zb zg zl zn p0_4 p0_5 p0_6 p0_7 p0_8 p0_9 p0_10 p0_11] := hP9.lendN _ hT14
 refine ⟨(hS13.pick [1] rfl rfl), gv1 9 2 (.int .u8 0) rfl (hS13.pick [1] rfl rfl) (gv1 10 3 (.bool b11) rfl (hS13.pick [1] rfl rfl) (gd_done (by kernel_rfl) (gx_thenN (hK4 _ _ (gx_ret ?_)))))⟩
 obtain rfl := sj hF
 exact gxF (.tuple #[.int .u8 0, .bool b11]) ⟨_, rfl, rfl, (hS13.pick [1] rfl rfl)⟩
def qBehindZeroSpace (N : Nat) (zb : List Int) (zg : List Int) (zl : Int) (zn : Int) (p0_4 : Int) (p0_5 : Int) (p0_6 : Int) (p0_7 : Int) (p0_8 : Int) (p0_9 : Bool) (p0_10 : Bool) (p0_11 : Bool) : Option (Int × Bool) :=
 ((pIs N zb zg zl zn p0_4 p0_5 p0_6 p0_7 p0_8 p0_9 p0_10 p0_11 p0_8 ([6])).bind fun b11 => some (1, b11))
def qBehindZeroSpace_R (zb : List Int) (zg : List Int) (zl : Int) (zn : Int) (p0_4 : Int) (p0_5 : Int) (p0_6 : Int) (p0_7 : Int) (p0_8 : Int) (p0_9 : Bool) (p0_10 : Bool) (p0_11 : Bool) (g0 : Nat) (zA : Option Addr) (zc : Nat) (A0_1 : Option Addr) (c0_1 : Nat) (r : Int × Bool) (w0 : World) (v : Value) (w : World) : Prop := v = .tuple #[.int .u8 r.1, .bool r.2] ∧ St (foots [plE g0 zA zc A0_1 c0_1 zb zg zl zn p0_4 p0_5 p0_6 p0_7 p0_8 p0_9 p0_10 p0_11]) w0 w [plE g0 zA zc A0_1 c0_1 zb zg zl zn p0_4 p0_5 p0_6 p0_7 p0_8 p0_9 p0_10 p0_11]
theorem qBehindZeroSpace_ok (N : Nat) (zb : List Int) (zg : List Int) (zl : Int) (zn : Int) (p0_4 : Int) (p0_5 : Int) (p0_6 : Int) (p0_7 : Int) (p0_8 : Int) (p0_9 : Bool) (p0_10 : Bool) (p0_11 : Bool) (g0 : Nat) (zA : Option Addr) (zc : Nat) (A0_1 : Option Addr) (c0_1 : Nat) (r : Int × Bool) (hF : qBehindZeroSpace N zb zg zl zn p0_4 p0_5 p0_6 p0_7 p0_8 p0_9 p0_10 p0_11 = some r) (w0 : World) (hv0_0 : Vw (foots [plE g0 zA zc A0_1 c0_1 zb zg zl zn p0_4 p0_5 p0_6 p0_7 p0_8 p0_9 p0_10 p0_11]) .i32 w0 zA zc zb) (hv0_1 : Vw (foots [plE g0 zA zc A0_1 c0_1 zb zg zl zn p0_4 p0_5 p0_6 p0_7 p0_8 p0_9 p0_10 p0_11]) .u8 w0 A0_1 c0_1 zg) (hl : St (foots [plE g0 zA zc A0_1 c0_1 zb zg zl zn p0_4 p0_5 p0_6 p0_7 p0_8 p0_9 p0_10 p0_11]) w0 w0 [plE g0 zA zc A0_1 c0_1 zb zg zl zn p0_4 p0_5 p0_6 p0_7 p0_8 p0_9 p0_10 p0_11]) :
  Calls Tryz.prog 26 #[.pointer (some ⟨g0, 0, none⟩)] w0 fun e w => ∃ v, e = .returned v ∧ qBehindZeroSpace_R zb zg zl zn p0_4 p0_5 p0_6 p0_7 p0_8 p0_9 p0_10 p0_11 g0 zA zc A0_1 c0_1 r w0 v w := by
 have hS0 := hl
 unfold qBehindZeroSpace at hF
 refine calls_of Tryz.func26 rfl ⟨((vP g0) :: un 12 ([])).toArray, []⟩ (by kernel_rfl) (gx_seq (fun K1 hK2 => gx_region (gx_k (.int .u8 0) w0 (gx_k (.bool false) w0 (gx_nil (gx_thenN (hK2 _ _ (gx_seq (fun K3 hK4 => ?_)))))))))
 refine gdst (fun w => St (foots [plE g0 zA zc A0_1 c0_1 zb zg zl zn p0_4 p0_5 p0_6 p0_7 p0_8 p0_9 p0_10 p0_11]) w0 w [plE g0 zA zc A0_1 c0_1 zb zg zl zn p0_4 p0_5 p0_6 p0_7 p0_8 p0_9 p0_10 p0_11]) 11 ?_
 have hS6 := hS0.drew
 generalize w0.drew = w5 at hS6 ⊢
 refine gv1 0 4 (vP g0) rfl hS6 (gv1 1 5 (vP g0) rfl hS6 (gv1 2 6 (vP g0) rfl hS6 (gv1 3 7 (vP g0) rfl hS6 (gv1 4 8 (vP g0) rfl hS6 (gv1 5 9 (vQ g0 8) rfl hS6 (gu1 6 10 (i6 p0_8) rfl hS6 (fun w hSw => rl1 (hSw.box 0 rfl 8 rfl)) (gdR 7 ⟨some 11, _, _, _, _, _⟩ rfl (st_made .u8 5 [6] hS6 (by show 1 ≤ 1000000000; decide) (by kernel_rfl)) ?_)))))))
 rintro _ w7 ⟨rfl, hS8⟩
 have hS8 : St _ _ w7 [plE g0 zA zc A0_1 c0_1 zb zg zl zn p0_4 p0_5 p0_6 p0_7 p0_8 p0_9 p0_10 p0_11, rowE .u8 5 (some ⟨w5.heap.size, 0, none⟩) 1 ([6])] := hS8
 refine ⟨(hS8.pick [0] rfl rfl), ?_⟩
 have hP9 : St _ _ w7 ([plE g0 zA zc A0_1 c0_1 zb zg zl zn p0_4 p0_5 p0_6 p0_7 p0_8 p0_9 p0_10 p0_11] ++ [rowE .u8 5 (some ⟨w5.heap.size, 0, none⟩) 1 ([6])]) := hS8
 obtain ⟨b11, hc10, hF⟩ := bind_in hF
 try dsimp only at hF
 refine gdC 8 ⟨some 12, _, _, _, _, _⟩ _ rfl (by kernel_rfl) (pIs_ok N zb zg zl zn p0_4 p0_5 p0_6 p0_7 p0_8 p0_9 p0_10 p0_11 p0_8 ([6]) g0 zA zc A0_1 c0_1 (some ⟨w5.heap.size, 0, none⟩) 1 _ hc10 w7 (hP9.vwA hv0_0) (hP9.vwA hv0_1) (hP9.vwB 0 rfl) hP9.part) ?_
 rintro _ w12 ⟨rfl, hT14⟩
 have hS13 : St _ _ w12 [rowE .u8 5 (some ⟨w5.heap.size, 0, none⟩) 1 ([6]), plE g0 zA zc A0_1 c0_1 zb zg zl zn p0_4 p0_5 p0_6 p0_7 p0_8 p0_9 p0_10 p0_11] := hP9.lendN _ hT14
 refine ⟨(hS13.pick [1] rfl rfl), gv1 9 2 (.int .u8 1) rfl (hS13.pick [1] rfl rfl) (gv1 10 3 (.bool b11) rfl (hS13.pick [1] rfl rfl) (gd_done (by kernel_rfl) (gx_thenN (hK4 _ _ (gx_ret ?_)))))⟩
 obtain rfl := sj hF
 exact gxF (.tuple #[.int .u8 1, .bool b11]) ⟨_, rfl, rfl, (hS13.pick [1] rfl rfl)⟩
def qBehindJoiner (N : Nat) (zb : List Int) (zg : List Int) (zl : Int) (zn : Int) (p0_4 : Int) (p0_5 : Int) (p0_6 : Int) (p0_7 : Int) (p0_8 : Int) (p0_9 : Bool) (p0_10 : Bool) (p0_11 : Bool) : Option (Int × Bool) :=
 ((pJoined N zb zg zl zn p0_4 p0_5 p0_6 p0_7 p0_8 p0_9 p0_10 p0_11).bind fun b7 => some (0, b7))
def qBehindJoiner_R (zb : List Int) (zg : List Int) (zl : Int) (zn : Int) (p0_4 : Int) (p0_5 : Int) (p0_6 : Int) (p0_7 : Int) (p0_8 : Int) (p0_9 : Bool) (p0_10 : Bool) (p0_11 : Bool) (g0 : Nat) (zA : Option Addr) (zc : Nat) (A0_1 : Option Addr) (c0_1 : Nat) (r : Int × Bool) (w0 : World) (v : Value) (w : World) : Prop := v = .tuple #[.int .u8 r.1, .bool r.2] ∧ St (foots [plE g0 zA zc A0_1 c0_1 zb zg zl zn p0_4 p0_5 p0_6 p0_7 p0_8 p0_9 p0_10 p0_11]) w0 w [plE g0 zA zc A0_1 c0_1 zb zg zl zn p0_4 p0_5 p0_6 p0_7 p0_8 p0_9 p0_10 p0_11]
theorem qBehindJoiner_ok (N : Nat) (zb : List Int) (zg : List Int) (zl : Int) (zn : Int) (p0_4 : Int) (p0_5 : Int) (p0_6 : Int) (p0_7 : Int) (p0_8 : Int) (p0_9 : Bool) (p0_10 : Bool) (p0_11 : Bool) (g0 : Nat) (zA : Option Addr) (zc : Nat) (A0_1 : Option Addr) (c0_1 : Nat) (r : Int × Bool) (hF : qBehindJoiner N zb zg zl zn p0_4 p0_5 p0_6 p0_7 p0_8 p0_9 p0_10 p0_11 = some r) (w0 : World) (hv0_0 : Vw (foots [plE g0 zA zc A0_1 c0_1 zb zg zl zn p0_4 p0_5 p0_6 p0_7 p0_8 p0_9 p0_10 p0_11]) .i32 w0 zA zc zb) (hv0_1 : Vw (foots [plE g0 zA zc A0_1 c0_1 zb zg zl zn p0_4 p0_5 p0_6 p0_7 p0_8 p0_9 p0_10 p0_11]) .u8 w0 A0_1 c0_1 zg) (hl : St (foots [plE g0 zA zc A0_1 c0_1 zb zg zl zn p0_4 p0_5 p0_6 p0_7 p0_8 p0_9 p0_10 p0_11]) w0 w0 [plE g0 zA zc A0_1 c0_1 zb zg zl zn p0_4 p0_5 p0_6 p0_7 p0_8 p0_9 p0_10 p0_11]) :
  Calls Tryz.prog 27 #[.pointer (some ⟨g0, 0, none⟩)] w0 fun e w => ∃ v, e = .returned v ∧ qBehindJoiner_R zb zg zl zn p0_4 p0_5 p0_6 p0_7 p0_8 p0_9 p0_10 p0_11 g0 zA zc A0_1 c0_1 r w0 v w := by
 have hS0 := hl
 unfold qBehindJoiner at hF
 refine calls_of Tryz.func27 rfl ⟨((vP g0) :: un 5 ([])).toArray, []⟩ (by kernel_rfl) (gx_seq (fun K1 hK2 => gx_region (gx_k (.int .u8 0) w0 (gx_k (.bool false) w0 (gx_nil (gx_thenN (hK2 _ _ (gx_seq (fun K3 hK4 => ?_)))))))))
 refine gx_region (gx_k (vP g0) w0 ?_)
 have hP5 : St _ _ w0 ([plE g0 zA zc A0_1 c0_1 zb zg zl zn p0_4 p0_5 p0_6 p0_7 p0_8 p0_9 p0_10 p0_11] ++ []) := hS0
 obtain ⟨b7, hc6, hF⟩ := bind_in hF
 try dsimp only at hF
 refine gx_c _ (pJoined_ok N zb zg zl zn p0_4 p0_5 p0_6 p0_7 p0_8 p0_9 p0_10 p0_11 g0 zA zc A0_1 c0_1 _ hc6 w0 (hP5.vwA hv0_0) (hP5.vwA hv0_1) hP5.part) ?_
 rintro _ w8 ⟨rfl, hT10⟩
 have hS9 : St _ _ w8 [plE g0 zA zc A0_1 c0_1 zb zg zl zn p0_4 p0_5 p0_6 p0_7 p0_8 p0_9 p0_10 p0_11] := hP5.lendN _ hT10
 refine gx_k (.int .u8 0) w8 (gx_k (.bool b7) w8 (gx_nil (gx_thenN (hK4 _ _ (gx_ret ?_)))))
 obtain rfl := sj hF
 exact gxF (.tuple #[.int .u8 0, .bool b7]) ⟨_, rfl, rfl, hS9⟩
def qBesideWordJoiner (N : Nat) (zb : List Int) (zg : List Int) (zl : Int) (zn : Int) (p0_4 : Int) (p0_5 : Int) (p0_6 : Int) (p0_7 : Int) (p0_8 : Int) (p0_9 : Bool) (p0_10 : Bool) (p0_11 : Bool) : Option (Int × Bool) :=
 ((pIs N zb zg zl zn p0_4 p0_5 p0_6 p0_7 p0_8 p0_9 p0_10 p0_11 zn ([7])).bind fun b11 => (match b11 with | true => some (0, true) | false => ((pIs N zb zg zl zn p0_4 p0_5 p0_6 p0_7 p0_8 p0_9 p0_10 p0_11 p0_4 ([7])).bind fun b19 => some (0, b19))))
def qBesideWordJoiner_R (zb : List Int) (zg : List Int) (zl : Int) (zn : Int) (p0_4 : Int) (p0_5 : Int) (p0_6 : Int) (p0_7 : Int) (p0_8 : Int) (p0_9 : Bool) (p0_10 : Bool) (p0_11 : Bool) (g0 : Nat) (zA : Option Addr) (zc : Nat) (A0_1 : Option Addr) (c0_1 : Nat) (r : Int × Bool) (w0 : World) (v : Value) (w : World) : Prop := v = .tuple #[.int .u8 r.1, .bool r.2] ∧ St (foots [plE g0 zA zc A0_1 c0_1 zb zg zl zn p0_4 p0_5 p0_6 p0_7 p0_8 p0_9 p0_10 p0_11]) w0 w [plE g0 zA zc A0_1 c0_1 zb zg zl zn p0_4 p0_5 p0_6 p0_7 p0_8 p0_9 p0_10 p0_11]
theorem qBesideWordJoiner_ok (N : Nat) (zb : List Int) (zg : List Int) (zl : Int) (zn : Int) (p0_4 : Int) (p0_5 : Int) (p0_6 : Int) (p0_7 : Int) (p0_8 : Int) (p0_9 : Bool) (p0_10 : Bool) (p0_11 : Bool) (g0 : Nat) (zA : Option Addr) (zc : Nat) (A0_1 : Option Addr) (c0_1 : Nat) (r : Int × Bool) (hF : qBesideWordJoiner N zb zg zl zn p0_4 p0_5 p0_6 p0_7 p0_8 p0_9 p0_10 p0_11 = some r) (w0 : World) (hv0_0 : Vw (foots [plE g0 zA zc A0_1 c0_1 zb zg zl zn p0_4 p0_5 p0_6 p0_7 p0_8 p0_9 p0_10 p0_11]) .i32 w0 zA zc zb) (hv0_1 : Vw (foots [plE g0 zA zc A0_1 c0_1 zb zg zl zn p0_4 p0_5 p0_6 p0_7 p0_8 p0_9 p0_10 p0_11]) .u8 w0 A0_1 c0_1 zg) (hl : St (foots [plE g0 zA zc A0_1 c0_1 zb zg zl zn p0_4 p0_5 p0_6 p0_7 p0_8 p0_9 p0_10 p0_11]) w0 w0 [plE g0 zA zc A0_1 c0_1 zb zg zl zn p0_4 p0_5 p0_6 p0_7 p0_8 p0_9 p0_10 p0_11]) :
  Calls Tryz.prog 28 #[.pointer (some ⟨g0, 0, none⟩)] w0 fun e w => ∃ v, e = .returned v ∧ qBesideWordJoiner_R zb zg zl zn p0_4 p0_5 p0_6 p0_7 p0_8 p0_9 p0_10 p0_11 g0 zA zc A0_1 c0_1 r w0 v w := by
 have hS0 := hl
 unfold qBesideWordJoiner at hF
 refine calls_of Tryz.func28 rfl ⟨((vP g0) :: un 23 ([])).toArray, []⟩ (by kernel_rfl) (gx_seq (fun K1 hK2 => gx_region (gx_k (.int .u8 0) w0 (gx_k (.bool false) w0 (gx_nil (gx_thenN (hK2 _ _ (gx_seq (fun K3 hK4 => ?_)))))))))
 refine gdst (fun w => St (foots [plE g0 zA zc A0_1 c0_1 zb zg zl zn p0_4 p0_5 p0_6 p0_7 p0_8 p0_9 p0_10 p0_11]) w0 w [plE g0 zA zc A0_1 c0_1 zb zg zl zn p0_4 p0_5 p0_6 p0_7 p0_8 p0_9 p0_10 p0_11]) 22 ?_
 have hS6 := hS0.drew
 generalize w0.drew = w5 at hS6 ⊢
 refine gv1 0 4 (vP g0) rfl hS6 (gv1 1 5 (vP g0) rfl hS6 (gv1 2 6 (vP g0) rfl hS6 (gv1 3 7 (vP g0) rfl hS6 (gv1 4 8 (vP g0) rfl hS6 (gv1 5 9 (vQ g0 3) rfl hS6 (gu1 6 10 (i6 zn) rfl hS6 (fun w hSw => rl1 (hSw.box 0 rfl 3 rfl)) (gdR 7 ⟨some 11, _, _, _, _, _⟩ rfl (st_made .u8 5 [7] hS6 (by show 1 ≤ 1000000000; decide) (by kernel_rfl)) ?_)))))))
 rintro _ w7 ⟨rfl, hS8⟩
 have hS8 : St _ _ w7 [plE g0 zA zc A0_1 c0_1 zb zg zl zn p0_4 p0_5 p0_6 p0_7 p0_8 p0_9 p0_10 p0_11, rowE .u8 5 (some ⟨w5.heap.size, 0, none⟩) 1 ([7])] := hS8
 refine ⟨(hS8.pick [0] rfl rfl), ?_⟩
 have hP9 : St _ _ w7 ([plE g0 zA zc A0_1 c0_1 zb zg zl zn p0_4 p0_5 p0_6 p0_7 p0_8 p0_9 p0_10 p0_11] ++ [rowE .u8 5 (some ⟨w5.heap.size, 0, none⟩) 1 ([7])]) := hS8
 obtain ⟨b11, hc10, hF⟩ := bind_in hF
 try dsimp only at hF
 refine gdC 8 ⟨some 12, _, _, _, _, _⟩ _ rfl (by kernel_rfl) (pIs_ok N zb zg zl zn p0_4 p0_5 p0_6 p0_7 p0_8 p0_9 p0_10 p0_11 zn ([7]) g0 zA zc A0_1 c0_1 (some ⟨w5.heap.size, 0, none⟩) 1 _ hc10 w7 (hP9.vwA hv0_0) (hP9.vwA hv0_1) (hP9.vwB 0 rfl) hP9.part) ?_
 rintro _ w12 ⟨rfl, hT14⟩
 have hS13 : St _ _ w12 [rowE .u8 5 (some ⟨w5.heap.size, 0, none⟩) 1 ([7]), plE g0 zA zc A0_1 c0_1 zb zg zl zn p0_4 p0_5 p0_6 p0_7 p0_8 p0_9 p0_10 p0_11] := hP9.lendN _ hT14
 refine ⟨(hS13.pick [1] rfl rfl), gv1 9 13 (.bool b11) rfl (hS13.pick [1] rfl rfl) ?_⟩
 rcases b11 with _ | _
 try dsimp only at hF
 refine gv1 10 14 (vP g0) rfl (hS13.pick [1] rfl rfl) (gv1 11 15 (vP g0) rfl (hS13.pick [1] rfl rfl) (gv1 12 16 (vP g0) rfl (hS13.pick [1] rfl rfl) (gv1 13 17 (vP g0) rfl (hS13.pick [1] rfl rfl) (gv1 14 18 (vP g0) rfl (hS13.pick [1] rfl rfl) (gv1 15 19 (vQ g0 4) rfl (hS13.pick [1] rfl rfl) (gu1 16 20 (i6 p0_4) rfl (hS13.pick [1] rfl rfl) (fun w hSw => rl1 (hSw.box 0 rfl 4 rfl)) (gdR 17 ⟨some 21, _, _, _, _, _⟩ rfl (st_made .u8 5 [7] hS13 (by show 1 ≤ 1000000000; decide) (by kernel_rfl)) ?_)))))))
 rintro _ w15 ⟨rfl, hS16⟩
 have hS16 : St _ _ w15 [rowE .u8 5 (some ⟨w5.heap.size, 0, none⟩) 1 ([7]), plE g0 zA zc A0_1 c0_1 zb zg zl zn p0_4 p0_5 p0_6 p0_7 p0_8 p0_9 p0_10 p0_11, rowE .u8 5 (some ⟨w12.heap.size, 0, none⟩) 1 ([7])] := hS16
 refine ⟨(hS16.pick [1] rfl rfl), ?_⟩
 have hP17 : St _ _ w15 ([plE g0 zA zc A0_1 c0_1 zb zg zl zn p0_4 p0_5 p0_6 p0_7 p0_8 p0_9 p0_10 p0_11] ++ [rowE .u8 5 (some ⟨w5.heap.size, 0, none⟩) 1 ([7]), rowE .u8 5 (some ⟨w12.heap.size, 0, none⟩) 1 ([7])]) := hS16.pick [1, 0, 2] rfl rfl
 obtain ⟨b19, hc18, hF⟩ := bind_in hF
 try dsimp only at hF
 refine gdC 18 ⟨some 22, _, _, _, _, _⟩ _ rfl (by kernel_rfl) (pIs_ok N zb zg zl zn p0_4 p0_5 p0_6 p0_7 p0_8 p0_9 p0_10 p0_11 p0_4 ([7]) g0 zA zc A0_1 c0_1 (some ⟨w12.heap.size, 0, none⟩) 1 _ hc18 w15 (hP17.vwA hv0_0) (hP17.vwA hv0_1) (hP17.vwB 1 rfl) hP17.part) ?_
 rintro _ w20 ⟨rfl, hT22⟩
 have hS21 : St _ _ w20 [rowE .u8 5 (some ⟨w5.heap.size, 0, none⟩) 1 ([7]), rowE .u8 5 (some ⟨w12.heap.size, 0, none⟩) 1 ([7]), plE g0 zA zc A0_1 c0_1 zb zg zl zn p0_4 p0_5 p0_6 p0_7 p0_8 p0_9 p0_10 p0_11] := hP17.lendN _ hT22
 refine ⟨(hS21.pick [2] rfl rfl), gv1 19 23 (.bool b19) rfl (hS21.pick [2] rfl rfl) (gv1 20 2 (.int .u8 0) rfl (hS21.pick [2] rfl rfl) (gv1 21 3 (.bool b19) rfl (hS21.pick [2] rfl rfl) (gd_done (by kernel_rfl) (gx_thenN (hK4 _ _ (gx_ret ?_))))))⟩
 obtain rfl := sj hF
 exact gxF (.tuple #[.int .u8 0, .bool b19]) ⟨_, rfl, rfl, (hS21.pick [2] rfl rfl)⟩
 try dsimp only at hF
 refine gz1 10 14 rfl (hS13.pick [1] rfl rfl) (gz1 11 15 rfl (hS13.pick [1] rfl rfl) (gz1 12 16 rfl (hS13.pick [1] rfl rfl) (gz1 13 17 rfl (hS13.pick [1] rfl rfl) (gz1 14 18 rfl (hS13.pick [1] rfl rfl) (gz1 15 19 rfl (hS13.pick [1] rfl rfl) (gz1 16 20 rfl (hS13.pick [1] rfl rfl) (gz1 17 21 rfl (hS13.pick [1] rfl rfl) ?_)))))))
 refine gz1 18 22 rfl (hS13.pick [1] rfl rfl) (gv1 19 23 (.bool true) rfl (hS13.pick [1] rfl rfl) (gv1 20 2 (.int .u8 0) rfl (hS13.pick [1] rfl rfl) (gv1 21 3 (.bool true) rfl (hS13.pick [1] rfl rfl) (gd_done (by kernel_rfl) (gx_thenN (hK4 _ _ (gx_ret ?_)))))))
 obtain rfl := sj hF
 exact gxF (.tuple #[.int .u8 0, .bool true]) ⟨_, rfl, rfl, (hS13.pick [1] rfl rfl)⟩
def qBehindGlue (N : Nat) (zb : List Int) (zg : List Int) (zl : Int) (zn : Int) (p0_4 : Int) (p0_5 : Int) (p0_6 : Int) (p0_7 : Int) (p0_8 : Int) (p0_9 : Bool) (p0_10 : Bool) (p0_11 : Bool) : Option (Int × Bool) :=
 ((pIs N zb zg zl zn p0_4 p0_5 p0_6 p0_7 p0_8 p0_9 p0_10 p0_11 zn ([8])).bind fun b11 => some (0, b11))
def qBehindGlue_R (zb : List Int) (zg : List Int) (zl : Int) (zn : Int) (p0_4 : Int) (p0_5 : Int) (p0_6 : Int) (p0_7 : Int) (p0_8 : Int) (p0_9 : Bool) (p0_10 : Bool) (p0_11 : Bool) (g0 : Nat) (zA : Option Addr) (zc : Nat) (A0_1 : Option Addr) (c0_1 : Nat) (r : Int × Bool) (w0 : World) (v : Value) (w : World) : Prop := v = .tuple #[.int .u8 r.1, .bool r.2] ∧ St (foots [plE g0 zA zc A0_1 c0_1 zb zg zl zn p0_4 p0_5 p0_6 p0_7 p0_8 p0_9 p0_10 p0_11]) w0 w [plE g0 zA zc A0_1 c0_1 zb zg zl zn p0_4 p0_5 p0_6 p0_7 p0_8 p0_9 p0_10 p0_11]
theorem qBehindGlue_ok (N : Nat) (zb : List Int) (zg : List Int) (zl : Int) (zn : Int) (p0_4 : Int) (p0_5 : Int) (p0_6 : Int) (p0_7 : Int) (p0_8 : Int) (p0_9 : Bool) (p0_10 : Bool) (p0_11 : Bool) (g0 : Nat) (zA : Option Addr) (zc : Nat) (A0_1 : Option Addr) (c0_1 : Nat) (r : Int × Bool) (hF : qBehindGlue N zb zg zl zn p0_4 p0_5 p0_6 p0_7 p0_8 p0_9 p0_10 p0_11 = some r) (w0 : World) (hv0_0 : Vw (foots [plE g0 zA zc A0_1 c0_1 zb zg zl zn p0_4 p0_5 p0_6 p0_7 p0_8 p0_9 p0_10 p0_11]) .i32 w0 zA zc zb) (hv0_1 : Vw (foots [plE g0 zA zc A0_1 c0_1 zb zg zl zn p0_4 p0_5 p0_6 p0_7 p0_8 p0_9 p0_10 p0_11]) .u8 w0 A0_1 c0_1 zg) (hl : St (foots [plE g0 zA zc A0_1 c0_1 zb zg zl zn p0_4 p0_5 p0_6 p0_7 p0_8 p0_9 p0_10 p0_11]) w0 w0 [plE g0 zA zc A0_1 c0_1 zb zg zl zn p0_4 p0_5 p0_6 p0_7 p0_8 p0_9 p0_10 p0_11]) :
  Calls Tryz.prog 29 #[.pointer (some ⟨g0, 0, none⟩)] w0 fun e w => ∃ v, e = .returned v ∧ qBehindGlue_R zb zg zl zn p0_4 p0_5 p0_6 p0_7 p0_8 p0_9 p0_10 p0_11 g0 zA zc A0_1 c0_1 r w0 v w := by
 have hS0 := hl
 unfold qBehindGlue at hF
 refine calls_of Tryz.func29 rfl ⟨((vP g0) :: un 12 ([])).toArray, []⟩ (by kernel_rfl) (gx_seq (fun K1 hK2 => gx_region (gx_k (.int .u8 0) w0 (gx_k (.bool false) w0 (gx_nil (gx_thenN (hK2 _ _ (gx_seq (fun K3 hK4 => ?_)))))))))
 refine gdst (fun w => St (foots [plE g0 zA zc A0_1 c0_1 zb zg zl zn p0_4 p0_5 p0_6 p0_7 p0_8 p0_9 p0_10 p0_11]) w0 w [plE g0 zA zc A0_1 c0_1 zb zg zl zn p0_4 p0_5 p0_6 p0_7 p0_8 p0_9 p0_10 p0_11]) 11 ?_
 have hS6 := hS0.drew
 generalize w0.drew = w5 at hS6 ⊢
 refine gv1 0 4 (vP g0) rfl hS6 (gv1 1 5 (vP g0) rfl hS6 (gv1 2 6 (vP g0) rfl hS6 (gv1 3 7 (vP g0) rfl hS6 (gv1 4 8 (vP g0) rfl hS6 (gv1 5 9 (vQ g0 3) rfl hS6 (gu1 6 10 (i6 zn) rfl hS6 (fun w hSw => rl1 (hSw.box 0 rfl 3 rfl)) (gdR 7 ⟨some 11, _, _, _, _, _⟩ rfl (st_made .u8 5 [8] hS6 (by show 1 ≤ 1000000000; decide) (by kernel_rfl)) ?_)))))))
 rintro _ w7 ⟨rfl, hS8⟩
 have hS8 : St _ _ w7 [plE g0 zA zc A0_1 c0_1 zb zg zl zn p0_4 p0_5 p0_6 p0_7 p0_8 p0_9 p0_10 p0_11, rowE .u8 5 (some ⟨w5.heap.size, 0, none⟩) 1 ([8])] := hS8
 refine ⟨(hS8.pick [0] rfl rfl), ?_⟩
 have hP9 : St _ _ w7 ([plE g0 zA zc A0_1 c0_1 zb zg zl zn p0_4 p0_5 p0_6 p0_7 p0_8 p0_9 p0_10 p0_11] ++ [rowE .u8 5 (some ⟨w5.heap.size, 0, none⟩) 1 ([8])]) := hS8
 obtain ⟨b11, hc10, hF⟩ := bind_in hF
 try dsimp only at hF
 refine gdC 8 ⟨some 12, _, _, _, _, _⟩ _ rfl (by kernel_rfl) (pIs_ok N zb zg zl zn p0_4 p0_5 p0_6 p0_7 p0_8 p0_9 p0_10 p0_11 zn ([8]) g0 zA zc A0_1 c0_1 (some ⟨w5.heap.size, 0, none⟩) 1 _ hc10 w7 (hP9.vwA hv0_0) (hP9.vwA hv0_1) (hP9.vwB 0 rfl) hP9.part) ?_
 rintro _ w12 ⟨rfl, hT14⟩
 have hS13 : St _ _ w12 [rowE .u8 5 (some ⟨w5.heap.size, 0, none⟩) 1 ([8]), plE g0 zA zc A0_1 c0_1 zb zg zl zn p0_4 p0_5 p0_6 p0_7 p0_8 p0_9 p0_10 p0_11] := hP9.lendN _ hT14
 refine ⟨(hS13.pick [1] rfl rfl), gv1 9 2 (.int .u8 0) rfl (hS13.pick [1] rfl rfl) (gv1 10 3 (.bool b11) rfl (hS13.pick [1] rfl rfl) (gd_done (by kernel_rfl) (gx_thenN (hK4 _ _ (gx_ret ?_)))))⟩
 obtain rfl := sj hF
 exact gxF (.tuple #[.int .u8 0, .bool b11]) ⟨_, rfl, rfl, (hS13.pick [1] rfl rfl)⟩
def qAheadOfGlue (N : Nat) (zb : List Int) (zg : List Int) (zl : Int) (zn : Int) (p0_4 : Int) (p0_5 : Int) (p0_6 : Int) (p0_7 : Int) (p0_8 : Int) (p0_9 : Bool) (p0_10 : Bool) (p0_11 : Bool) : Option (Int × Bool) :=
 ((pIs N zb zg zl zn p0_4 p0_5 p0_6 p0_7 p0_8 p0_9 p0_10 p0_11 p0_4 ([8])).bind fun b11 => (match b11 with | true => ((pIs N zb zg zl zn p0_4 p0_5 p0_6 p0_7 p0_8 p0_9 p0_10 p0_11 zn ([5, 11, 14])).bind fun b19 => some (0, (!b19))) | false => some (0, false)))
def qAheadOfGlue_R (zb : List Int) (zg : List Int) (zl : Int) (zn : Int) (p0_4 : Int) (p0_5 : Int) (p0_6 : Int) (p0_7 : Int) (p0_8 : Int) (p0_9 : Bool) (p0_10 : Bool) (p0_11 : Bool) (g0 : Nat) (zA : Option Addr) (zc : Nat) (A0_1 : Option Addr) (c0_1 : Nat) (r : Int × Bool) (w0 : World) (v : Value) (w : World) : Prop := v = .tuple #[.int .u8 r.1, .bool r.2] ∧ St (foots [plE g0 zA zc A0_1 c0_1 zb zg zl zn p0_4 p0_5 p0_6 p0_7 p0_8 p0_9 p0_10 p0_11]) w0 w [plE g0 zA zc A0_1 c0_1 zb zg zl zn p0_4 p0_5 p0_6 p0_7 p0_8 p0_9 p0_10 p0_11]
theorem qAheadOfGlue_ok (N : Nat) (zb : List Int) (zg : List Int) (zl : Int) (zn : Int) (p0_4 : Int) (p0_5 : Int) (p0_6 : Int) (p0_7 : Int) (p0_8 : Int) (p0_9 : Bool) (p0_10 : Bool) (p0_11 : Bool) (g0 : Nat) (zA : Option Addr) (zc : Nat) (A0_1 : Option Addr) (c0_1 : Nat) (r : Int × Bool) (hF : qAheadOfGlue N zb zg zl zn p0_4 p0_5 p0_6 p0_7 p0_8 p0_9 p0_10 p0_11 = some r) (w0 : World) (hv0_0 : Vw (foots [plE g0 zA zc A0_1 c0_1 zb zg zl zn p0_4 p0_5 p0_6 p0_7 p0_8 p0_9 p0_10 p0_11]) .i32 w0 zA zc zb) (hv0_1 : Vw (foots [plE g0 zA zc A0_1 c0_1 zb zg zl zn p0_4 p0_5 p0_6 p0_7 p0_8 p0_9 p0_10 p0_11]) .u8 w0 A0_1 c0_1 zg) (hl : St (foots [plE g0 zA zc A0_1 c0_1 zb zg zl zn p0_4 p0_5 p0_6 p0_7 p0_8 p0_9 p0_10 p0_11]) w0 w0 [plE g0 zA zc A0_1 c0_1 zb zg zl zn p0_4 p0_5 p0_6 p0_7 p0_8 p0_9 p0_10 p0_11]) :
  Calls Tryz.prog 30 #[.pointer (some ⟨g0, 0, none⟩)] w0 fun e w => ∃ v, e = .returned v ∧ qAheadOfGlue_R zb zg zl zn p0_4 p0_5 p0_6 p0_7 p0_8 p0_9 p0_10 p0_11 g0 zA zc A0_1 c0_1 r w0 v w := by
 have hS0 := hl
 unfold qAheadOfGlue at hF
 refine calls_of Tryz.func30 rfl ⟨((vP g0) :: un 24 ([])).toArray, []⟩ (by kernel_rfl) (gx_seq (fun K1 hK2 => gx_region (gx_k (.int .u8 0) w0 (gx_k (.bool false) w0 (gx_nil (gx_thenN (hK2 _ _ (gx_seq (fun K3 hK4 => ?_)))))))))
 refine gdst (fun w => St (foots [plE g0 zA zc A0_1 c0_1 zb zg zl zn p0_4 p0_5 p0_6 p0_7 p0_8 p0_9 p0_10 p0_11]) w0 w [plE g0 zA zc A0_1 c0_1 zb zg zl zn p0_4 p0_5 p0_6 p0_7 p0_8 p0_9 p0_10 p0_11]) 23 ?_
 have hS6 := hS0.drew
 generalize w0.drew = w5 at hS6 ⊢
 refine gv1 0 4 (vP g0) rfl hS6 (gv1 1 5 (vP g0) rfl hS6 (gv1 2 6 (vP g0) rfl hS6 (gv1 3 7 (vP g0) rfl hS6 (gv1 4 8 (vP g0) rfl hS6 (gv1 5 9 (vQ g0 4) rfl hS6 (gu1 6 10 (i6 p0_4) rfl hS6 (fun w hSw => rl1 (hSw.box 0 rfl 4 rfl)) (gdR 7 ⟨some 11, _, _, _, _, _⟩ rfl (st_made .u8 5 [8] hS6 (by show 1 ≤ 1000000000; decide) (by kernel_rfl)) ?_)))))))
 rintro _ w7 ⟨rfl, hS8⟩
 have hS8 : St _ _ w7 [plE g0 zA zc A0_1 c0_1 zb zg zl zn p0_4 p0_5 p0_6 p0_7 p0_8 p0_9 p0_10 p0_11, rowE .u8 5 (some ⟨w5.heap.size, 0, none⟩) 1 ([8])] := hS8
 refine ⟨(hS8.pick [0] rfl rfl), ?_⟩
 have hP9 : St _ _ w7 ([plE g0 zA zc A0_1 c0_1 zb zg zl zn p0_4 p0_5 p0_6 p0_7 p0_8 p0_9 p0_10 p0_11] ++ [rowE .u8 5 (some ⟨w5.heap.size, 0, none⟩) 1 ([8])]) := hS8
 obtain ⟨b11, hc10, hF⟩ := bind_in hF
 try dsimp only at hF
 refine gdC 8 ⟨some 12, _, _, _, _, _⟩ _ rfl (by kernel_rfl) (pIs_ok N zb zg zl zn p0_4 p0_5 p0_6 p0_7 p0_8 p0_9 p0_10 p0_11 p0_4 ([8]) g0 zA zc A0_1 c0_1 (some ⟨w5.heap.size, 0, none⟩) 1 _ hc10 w7 (hP9.vwA hv0_0) (hP9.vwA hv0_1) (hP9.vwB 0 rfl) hP9.part) ?_
 rintro _ w12 ⟨rfl, hT14⟩
 have hS13 : St _ _ w12 [rowE .u8 5 (some ⟨w5.heap.size, 0, none⟩) 1 ([8]), plE g0 zA zc A0_1 c0_1 zb zg zl zn p0_4 p0_5 p0_6 p0_7 p0_8 p0_9 p0_10 p0_11] := hP9.lendN _ hT14
 refine ⟨(hS13.pick [1] rfl rfl), gv1 9 13 (.bool b11) rfl (hS13.pick [1] rfl rfl) ?_⟩
 rcases b11 with _ | _
 try dsimp only at hF
 refine gz1 10 14 rfl (hS13.pick [1] rfl rfl) (gz1 11 15 rfl (hS13.pick [1] rfl rfl) (gz1 12 16 rfl (hS13.pick [1] rfl rfl) (gz1 13 17 rfl (hS13.pick [1] rfl rfl) (gz1 14 18 rfl (hS13.pick [1] rfl rfl) (gz1 15 19 rfl (hS13.pick [1] rfl rfl) (gz1 16 20 rfl (hS13.pick [1] rfl rfl) (gz1 17 21 rfl (hS13.pick [1] rfl rfl) ?_)))))))
 refine gz1 18 22 rfl (hS13.pick [1] rfl rfl) (gz1 19 23 rfl (hS13.pick [1] rfl rfl) (gv1 20 24 (.bool false) rfl (hS13.pick [1] rfl rfl) (gv1 21 2 (.int .u8 0) rfl (hS13.pick [1] rfl rfl) (gv1 22 3 (.bool false) rfl (hS13.pick [1] rfl rfl) (gd_done (by kernel_rfl) (gx_thenN (hK4 _ _ ?_)))))))
 refine gx_ret ?_
 obtain rfl := sj hF
 exact gxF (.tuple #[.int .u8 0, .bool false]) ⟨_, rfl, rfl, (hS13.pick [1] rfl rfl)⟩
 try dsimp only at hF
 refine gv1 10 14 (vP g0) rfl (hS13.pick [1] rfl rfl) (gv1 11 15 (vP g0) rfl (hS13.pick [1] rfl rfl) (gv1 12 16 (vP g0) rfl (hS13.pick [1] rfl rfl) (gv1 13 17 (vP g0) rfl (hS13.pick [1] rfl rfl) (gv1 14 18 (vP g0) rfl (hS13.pick [1] rfl rfl) (gv1 15 19 (vQ g0 3) rfl (hS13.pick [1] rfl rfl) (gu1 16 20 (i6 zn) rfl (hS13.pick [1] rfl rfl) (fun w hSw => rl1 (hSw.box 0 rfl 3 rfl)) (gdR 17 ⟨some 21, _, _, _, _, _⟩ rfl (st_made .u8 5 [5, 11, 14] hS13 (by show 3 ≤ 1000000000; decide) (by kernel_rfl)) ?_)))))))
 rintro _ w15 ⟨rfl, hS16⟩
 have hS16 : St _ _ w15 [rowE .u8 5 (some ⟨w5.heap.size, 0, none⟩) 1 ([8]), plE g0 zA zc A0_1 c0_1 zb zg zl zn p0_4 p0_5 p0_6 p0_7 p0_8 p0_9 p0_10 p0_11, rowE .u8 5 (some ⟨w12.heap.size, 0, none⟩) 3 ([5, 11, 14])] := hS16
 refine ⟨(hS16.pick [1] rfl rfl), ?_⟩
 have hP17 : St _ _ w15 ([plE g0 zA zc A0_1 c0_1 zb zg zl zn p0_4 p0_5 p0_6 p0_7 p0_8 p0_9 p0_10 p0_11] ++ [rowE .u8 5 (some ⟨w5.heap.size, 0, none⟩) 1 ([8]), rowE .u8 5 (some ⟨w12.heap.size, 0, none⟩) 3 ([5, 11, 14])]) := hS16.pick [1, 0, 2] rfl rfl
 obtain ⟨b19, hc18, hF⟩ := bind_in hF
 try dsimp only at hF
 refine gdC 18 ⟨some 22, _, _, _, _, _⟩ _ rfl (by kernel_rfl) (pIs_ok N zb zg zl zn p0_4 p0_5 p0_6 p0_7 p0_8 p0_9 p0_10 p0_11 zn ([5, 11, 14]) g0 zA zc A0_1 c0_1 (some ⟨w12.heap.size, 0, none⟩) 3 _ hc18 w15 (hP17.vwA hv0_0) (hP17.vwA hv0_1) (hP17.vwB 1 rfl) hP17.part) ?_
 rintro _ w20 ⟨rfl, hT22⟩
 have hS21 : St _ _ w20 [rowE .u8 5 (some ⟨w5.heap.size, 0, none⟩) 1 ([8]), rowE .u8 5 (some ⟨w12.heap.size, 0, none⟩) 3 ([5, 11, 14]), plE g0 zA zc A0_1 c0_1 zb zg zl zn p0_4 p0_5 p0_6 p0_7 p0_8 p0_9 p0_10 p0_11] := hP17.lendN _ hT22
 refine ⟨(hS21.pick [2] rfl rfl), gv1 19 23 (.bool (!b19)) rfl (hS21.pick [2] rfl rfl) (gv1 20 24 (.bool (!b19)) rfl (hS21.pick [2] rfl rfl) (gv1 21 2 (.int .u8 0) rfl (hS21.pick [2] rfl rfl) (gv1 22 3 (.bool (!b19)) rfl (hS21.pick [2] rfl rfl) (gd_done (by kernel_rfl) (gx_thenN (hK4 _ _ ?_))))))⟩
 refine gx_ret ?_
 obtain rfl := sj hF
 exact gxF (.tuple #[.int .u8 0, .bool (!b19)]) ⟨_, rfl, rfl, (hS21.pick [2] rfl rfl)⟩
end Go.Proofs.YtdbimchiecdkoaaGreat
