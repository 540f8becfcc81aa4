/-
  The rules, walked.
-/
import Derived.Test.YtdbimchiecdkoaaGreatPJ
namespace Go.Proofs.YtdbimchiecdkoaaGreat
open Go Go.RowKit
set_option maxRecDepth 100000
set_option maxHeartbeats 4000000
set_option linter.unusedVariables false
def qBetweenDashes (N : Nat) (zb : List Int) (zg : List Int) (zl : Int) (zn : Int) (p0_4 : Int) (p0_5 : Int) (p0_6 : Int) (p0_7 : Int) (p0_8 : Int) (p0_9 : Bool) (p0_10 : Bool) (p0_11 : Bool) : Option (Int × Bool) :=
 ((pIs N zb zg zl zn p0_4 p0_5 p0_6 p0_7 p0_8 p0_9 p0_10 p0_11 p0_8 ([13])).bind fun b11 => (match b11 with | true => ((pIs N zb zg zl zn p0_4 p0_5 p0_6 p0_7 p0_8 p0_9 p0_10 p0_11 p0_4 ([13])).bind fun b19 => some (0, b19)) | false => some (0, false)))
def qBetweenDashes_R (zb : List Int) (zg : List Int) (zl : Int) (zn : Int) (p0_4 : Int) (p0_5 : Int) (p0_6 : Int) (p0_7 : Int) (p0_8 : Int) (p0_9 : Bool) (p0_10 : Bool) (p0_11 : Bool) (g0 : Nat) (zA : Option Addr) (zc : Nat) (A0_1 : Option Addr) (c0_1 : Nat) (r : Int × Bool) (w0 : World) (v : Value) (w : World) : Prop := v = .tuple #[.int .u8 r.1, .bool r.2] ∧ St (foots [plE g0 zA zc A0_1 c0_1 zb zg zl zn p0_4 p0_5 p0_6 p0_7 p0_8 p0_9 p0_10 p0_11]) w0 w [plE g0 zA zc A0_1 c0_1 zb zg zl zn p0_4 p0_5 p0_6 p0_7 p0_8 p0_9 p0_10 p0_11]
theorem qBetweenDashes_ok (N : Nat) (zb : List Int) (zg : List Int) (zl : Int) (zn : Int) (p0_4 : Int) (p0_5 : Int) (p0_6 : Int) (p0_7 : Int) (p0_8 : Int) (p0_9 : Bool) (p0_10 : Bool) (p0_11 : Bool) (g0 : Nat) (zA : Option Addr) (zc : Nat) (A0_1 : Option Addr) (c0_1 : Nat) (r : Int × Bool) (hF : qBetweenDashes N zb zg zl zn p0_4 p0_5 p0_6 p0_7 p0_8 p0_9 p0_10 p0_11 = some r) (w0 : World) (hv0_0 : Vw (foots [plE g0 zA zc A0_1 c0_1 zb zg zl zn p0_4 p0_5 p0_6 p0_7 p0_8 p0_9 p0_10 p0_11]) .i32 w0 zA zc zb) (hv0_1 : Vw (foots [plE g0 zA zc A0_1 c0_1 zb zg zl zn p0_4 p0_5 p0_6 p0_7 p0_8 p0_9 p0_10 p0_11]) .u8 w0 A0_1 c0_1 zg) (hl : St (foots [plE g0 zA zc A0_1 c0_1 zb zg zl zn p0_4 p0_5 p0_6 p0_7 p0_8 p0_9 p0_10 p0_11]) w0 w0 [plE g0 zA zc A0_1 c0_1 zb zg zl zn p0_4 p0_5 p0_6 p0_7 p0_8 p0_9 p0_10 p0_11]) :
  Calls Tryz.prog 38 #[.pointer (some ⟨g0, 0, none⟩)] w0 fun e w => ∃ v, e = .returned v ∧ qBetweenDashes_R zb zg zl zn p0_4 p0_5 p0_6 p0_7 p0_8 p0_9 p0_10 p0_11 g0 zA zc A0_1 c0_1 r w0 v w := by
 have hS0 := hl
 unfold qBetweenDashes at hF
 refine calls_of Tryz.func38 rfl ⟨((vP g0) :: un 23 ([])).toArray, []⟩ (by kernel_rfl) (gx_seq (fun K1 hK2 => gx_region (gx_k (.int .u8 0) w0 (gx_k (.bool false) w0 (gx_nil (gx_thenN (hK2 _ _ (gx_seq (fun K3 hK4 => ?_)))))))))
 refine gdst (fun w => St (foots [plE g0 zA zc A0_1 c0_1 zb zg zl zn p0_4 p0_5 p0_6 p0_7 p0_8 p0_9 p0_10 p0_11]) w0 w [plE g0 zA zc A0_1 c0_1 zb zg zl zn p0_4 p0_5 p0_6 p0_7 p0_8 p0_9 p0_10 p0_11]) 22 ?_
 have hS6 := hS0.drew
 generalize w0.drew = w5 at hS6 ⊢
 refine gv1 0 4 (vP g0) rfl hS6 (gv1 1 5 (vP g0) rfl hS6 (gv1 2 6 (vP g0) rfl hS6 (gv1 3 7 (vP g0) rfl hS6 (gv1 4 8 (vP g0) rfl hS6 (gv1 5 9 (vQ g0 8) rfl hS6 (gu1 6 10 (i6 p0_8) rfl hS6 (fun w hSw => rl1 (hSw.box 0 rfl 8 rfl)) (gdR 7 ⟨some 11, _, _, _, _, _⟩ rfl (st_made .u8 5 [13] hS6 (by show 1 ≤ 1000000000; decide) (by kernel_rfl)) ?_)))))))
 rintro _ w7 ⟨rfl, hS8⟩
 have hS8 : St _ _ w7 [plE g0 zA zc A0_1 c0_1 zb zg zl zn p0_4 p0_5 p0_6 p0_7 p0_8 p0_9 p0_10 p0_11, rowE .u8 5 (some ⟨w5.heap.size, 0, none⟩) 1 ([13])] := hS8
 refine ⟨(hS8.pick [0] rfl rfl), ?_⟩
 have hP9 : St _ _ w7 ([plE g0 zA zc A0_1 c0_1 zb zg zl zn p0_4 p0_5 p0_6 p0_7 p0_8 p0_9 p0_10 p0_11] ++ [rowE .u8 5 (some ⟨w5.heap.size, 0, none⟩) 1 ([13])]) := hS8
 obtain ⟨b11, hc10, hF⟩ := bind_in hF
 try dsimp only at hF
 refine gdC 8 ⟨some 12, _, _, _, _, _⟩ _ rfl (by kernel_rfl) (pIs_ok N zb zg zl zn p0_4 p0_5 p0_6 p0_7 p0_8 p0_9 p0_10 p0_11 p0_8 ([13]) g0 zA zc A0_1 c0_1 (some ⟨w5.heap.size, 0, none⟩) 1 _ hc10 w7 (hP9.vwA hv0_0) (hP9.vwA hv0_1) (hP9.vwB 0 rfl) hP9.part) ?_
 rintro _ w12 ⟨rfl, hT14⟩
 have hS13 : St _ _ w12 [rowE .u8 5 (some ⟨w5.heap.size, 0, none⟩) 1 ([13]), plE g0 zA zc A0_1 c0_1 zb zg zl zn p0_4 p0_5 p0_6 p0_7 p0_8 p0_9 p0_10 p0_11] := hP9.lendN _ hT14
 refine ⟨(hS13.pick [1] rfl rfl), gv1 9 13 (.bool b11) rfl (hS13.pick [1] rfl rfl) ?_⟩
 rcases b11 with _ | _
 try dsimp only at hF
 refine gz1 10 14 rfl (hS13.pick [1] rfl rfl) (gz1 11 15 rfl (hS13.pick [1] rfl rfl) (gz1 12 16 rfl (hS13.pick [1] rfl rfl) (gz1 13 17 rfl (hS13.pick [1] rfl rfl) (gz1 14 18 rfl (hS13.pick [1] rfl rfl) (gz1 15 19 rfl (hS13.pick [1] rfl rfl) (gz1 16 20 rfl (hS13.pick [1] rfl rfl) (gz1 17 21 rfl (hS13.pick [1] rfl rfl) ?_)))))))
 refine gz1 18 22 rfl (hS13.pick [1] rfl rfl) (gv1 19 23 (.bool false) rfl (hS13.pick [1] rfl rfl) (gv1 20 2 (.int .u8 0) rfl (hS13.pick [1] rfl rfl) (gv1 21 3 (.bool false) rfl (hS13.pick [1] rfl rfl) (gd_done (by kernel_rfl) (gx_thenN (hK4 _ _ (gx_ret ?_)))))))
 obtain rfl := sj hF
 exact gxF (.tuple #[.int .u8 0, .bool false]) ⟨_, rfl, rfl, (hS13.pick [1] rfl rfl)⟩
 try dsimp only at hF
 refine gv1 10 14 (vP g0) rfl (hS13.pick [1] rfl rfl) (gv1 11 15 (vP g0) rfl (hS13.pick [1] rfl rfl) (gv1 12 16 (vP g0) rfl (hS13.pick [1] rfl rfl) (gv1 13 17 (vP g0) rfl (hS13.pick [1] rfl rfl) (gv1 14 18 (vP g0) rfl (hS13.pick [1] rfl rfl) (gv1 15 19 (vQ g0 4) rfl (hS13.pick [1] rfl rfl) (gu1 16 20 (i6 p0_4) rfl (hS13.pick [1] rfl rfl) (fun w hSw => rl1 (hSw.box 0 rfl 4 rfl)) (gdR 17 ⟨some 21, _, _, _, _, _⟩ rfl (st_made .u8 5 [13] hS13 (by show 1 ≤ 1000000000; decide) (by kernel_rfl)) ?_)))))))
 rintro _ w15 ⟨rfl, hS16⟩
 have hS16 : St _ _ w15 [rowE .u8 5 (some ⟨w5.heap.size, 0, none⟩) 1 ([13]), plE g0 zA zc A0_1 c0_1 zb zg zl zn p0_4 p0_5 p0_6 p0_7 p0_8 p0_9 p0_10 p0_11, rowE .u8 5 (some ⟨w12.heap.size, 0, none⟩) 1 ([13])] := hS16
 refine ⟨(hS16.pick [1] rfl rfl), ?_⟩
 have hP17 : St _ _ w15 ([plE g0 zA zc A0_1 c0_1 zb zg zl zn p0_4 p0_5 p0_6 p0_7 p0_8 p0_9 p0_10 p0_11] ++ [rowE .u8 5 (some ⟨w5.heap.size, 0, none⟩) 1 ([13]), rowE .u8 5 (some ⟨w12.heap.size, 0, none⟩) 1 ([13])]) := hS16.pick [1, 0, 2] rfl rfl
 obtain ⟨b19, hc18, hF⟩ := bind_in hF
 try dsimp only at hF
 refine gdC 18 ⟨some 22, _, _, _, _, _⟩ _ rfl (by kernel_rfl) (pIs_ok N zb zg zl zn p0_4 p0_5 p0_6 p0_7 p0_8 p0_9 p0_10 p0_11 p0_4 ([13]) g0 zA zc A0_1 c0_1 (some ⟨w12.heap.size, 0, none⟩) 1 _ hc18 w15 (hP17.vwA hv0_0) (hP17.vwA hv0_1) (hP17.vwB 1 rfl) hP17.part) ?_
 rintro _ w20 ⟨rfl, hT22⟩
 have hS21 : St _ _ w20 [rowE .u8 5 (some ⟨w5.heap.size, 0, none⟩) 1 ([13]), rowE .u8 5 (some ⟨w12.heap.size, 0, none⟩) 1 ([13]), plE g0 zA zc A0_1 c0_1 zb zg zl zn p0_4 p0_5 p0_6 p0_7 p0_8 p0_9 p0_10 p0_11] := hP17.lendN _ hT22
 refine ⟨(hS21.pick [2] rfl rfl), gv1 19 23 (.bool b19) rfl (hS21.pick [2] rfl rfl) (gv1 20 2 (.int .u8 0) rfl (hS21.pick [2] rfl rfl) (gv1 21 3 (.bool b19) rfl (hS21.pick [2] rfl rfl) (gd_done (by kernel_rfl) (gx_thenN (hK4 _ _ (gx_ret ?_))))))⟩
 obtain rfl := sj hF
 exact gxF (.tuple #[.int .u8 0, .bool b19]) ⟨_, rfl, rfl, (hS21.pick [2] rfl rfl)⟩
def qBehindSpace (N : Nat) (zb : List Int) (zg : List Int) (zl : Int) (zn : Int) (p0_4 : Int) (p0_5 : Int) (p0_6 : Int) (p0_7 : Int) (p0_8 : Int) (p0_9 : Bool) (p0_10 : Bool) (p0_11 : Bool) : Option (Int × Bool) :=
 ((pIs N zb zg zl zn p0_4 p0_5 p0_6 p0_7 p0_8 p0_9 p0_10 p0_11 zn ([5])).bind fun b11 => some (1, b11))
def qBehindSpace_R (zb : List Int) (zg : List Int) (zl : Int) (zn : Int) (p0_4 : Int) (p0_5 : Int) (p0_6 : Int) (p0_7 : Int) (p0_8 : Int) (p0_9 : Bool) (p0_10 : Bool) (p0_11 : Bool) (g0 : Nat) (zA : Option Addr) (zc : Nat) (A0_1 : Option Addr) (c0_1 : Nat) (r : Int × Bool) (w0 : World) (v : Value) (w : World) : Prop := v = .tuple #[.int .u8 r.1, .bool r.2] ∧ St (foots [plE g0 zA zc A0_1 c0_1 zb zg zl zn p0_4 p0_5 p0_6 p0_7 p0_8 p0_9 p0_10 p0_11]) w0 w [plE g0 zA zc A0_1 c0_1 zb zg zl zn p0_4 p0_5 p0_6 p0_7 p0_8 p0_9 p0_10 p0_11]
theorem qBehindSpace_ok (N : Nat) (zb : List Int) (zg : List Int) (zl : Int) (zn : Int) (p0_4 : Int) (p0_5 : Int) (p0_6 : Int) (p0_7 : Int) (p0_8 : Int) (p0_9 : Bool) (p0_10 : Bool) (p0_11 : Bool) (g0 : Nat) (zA : Option Addr) (zc : Nat) (A0_1 : Option Addr) (c0_1 : Nat) (r : Int × Bool) (hF : qBehindSpace N zb zg zl zn p0_4 p0_5 p0_6 p0_7 p0_8 p0_9 p0_10 p0_11 = some r) (w0 : World) (hv0_0 : Vw (foots [plE g0 zA zc A0_1 c0_1 zb zg zl zn p0_4 p0_5 p0_6 p0_7 p0_8 p0_9 p0_10 p0_11]) .i32 w0 zA zc zb) (hv0_1 : Vw (foots [plE g0 zA zc A0_1 c0_1 zb zg zl zn p0_4 p0_5 p0_6 p0_7 p0_8 p0_9 p0_10 p0_11]) .u8 w0 A0_1 c0_1 zg) (hl : St (foots [plE g0 zA zc A0_1 c0_1 zb zg zl zn p0_4 p0_5 p0_6 p0_7 p0_8 p0_9 p0_10 p0_11]) w0 w0 [plE g0 zA zc A0_1 c0_1 zb zg zl zn p0_4 p0_5 p0_6 p0_7 p0_8 p0_9 p0_10 p0_11]) :
  Calls Tryz.prog 39 #[.pointer (some ⟨g0, 0, none⟩)] w0 fun e w => ∃ v, e = .returned v ∧ qBehindSpace_R zb zg zl zn p0_4 p0_5 p0_6 p0_7 p0_8 p0_9 p0_10 p0_11 g0 zA zc A0_1 c0_1 r w0 v w := by
 have hS0 := hl
 unfold qBehindSpace at hF
 refine calls_of Tryz.func39 rfl ⟨((vP g0) :: un 12 ([])).toArray, []⟩ (by kernel_rfl) (gx_seq (fun K1 hK2 => gx_region (gx_k (.int .u8 0) w0 (gx_k (.bool false) w0 (gx_nil (gx_thenN (hK2 _ _ (gx_seq (fun K3 hK4 => ?_)))))))))
 refine gdst (fun w => St (foots [plE g0 zA zc A0_1 c0_1 zb zg zl zn p0_4 p0_5 p0_6 p0_7 p0_8 p0_9 p0_10 p0_11]) w0 w [plE g0 zA zc A0_1 c0_1 zb zg zl zn p0_4 p0_5 p0_6 p0_7 p0_8 p0_9 p0_10 p0_11]) 11 ?_
 have hS6 := hS0.drew
 generalize w0.drew = w5 at hS6 ⊢
 refine gv1 0 4 (vP g0) rfl hS6 (gv1 1 5 (vP g0) rfl hS6 (gv1 2 6 (vP g0) rfl hS6 (gv1 3 7 (vP g0) rfl hS6 (gv1 4 8 (vP g0) rfl hS6 (gv1 5 9 (vQ g0 3) rfl hS6 (gu1 6 10 (i6 zn) rfl hS6 (fun w hSw => rl1 (hSw.box 0 rfl 3 rfl)) (gdR 7 ⟨some 11, _, _, _, _, _⟩ rfl (st_made .u8 5 [5] hS6 (by show 1 ≤ 1000000000; decide) (by kernel_rfl)) ?_)))))))
 rintro _ w7 ⟨rfl, hS8⟩
 have hS8 : St _ _ w7 [plE g0 zA zc A0_1 c0_1 zb zg zl zn p0_4 p0_5 p0_6 p0_7 p0_8 p0_9 p0_10 p0_11, rowE .u8 5 (some ⟨w5.heap.size, 0, none⟩) 1 ([5])] := hS8
 refine ⟨(hS8.pick [0] rfl rfl), ?_⟩
 have hP9 : St _ _ w7 ([plE g0 zA zc A0_1 c0_1 zb zg zl zn p0_4 p0_5 p0_6 p0_7 p0_8 p0_9 p0_10 p0_11] ++ [rowE .u8 5 (some ⟨w5.heap.size, 0, none⟩) 1 ([5])]) := hS8
 obtain ⟨b11, hc10, hF⟩ := bind_in hF
 try dsimp only at hF
 refine gdC 8 ⟨some 12, _, _, _, _, _⟩ _ rfl (by kernel_rfl) (pIs_ok N zb zg zl zn p0_4 p0_5 p0_6 p0_7 p0_8 p0_9 p0_10 p0_11 zn ([5]) g0 zA zc A0_1 c0_1 (some ⟨w5.heap.size, 0, none⟩) 1 _ hc10 w7 (hP9.vwA hv0_0) (hP9.vwA hv0_1) (hP9.vwB 0 rfl) hP9.part) ?_
 rintro _ w12 ⟨rfl, hT14⟩
 have hS13 : St _ _ w12 [rowE .u8 5 (some ⟨w5.heap.size, 0, none⟩) 1 ([5]), plE g0 zA zc A0_1 c0_1 zb zg zl zn p0_4 p0_5 p0_6 p0_7 p0_8 p0_9 p0_10 p0_11] := hP9.lendN _ hT14
 refine ⟨(hS13.pick [1] rfl rfl), gv1 9 2 (.int .u8 1) rfl (hS13.pick [1] rfl rfl) (gv1 10 3 (.bool b11) rfl (hS13.pick [1] rfl rfl) (gd_done (by kernel_rfl) (gx_thenN (hK4 _ _ (gx_ret ?_)))))⟩
 obtain rfl := sj hF
 exact gxF (.tuple #[.int .u8 1, .bool b11]) ⟨_, rfl, rfl, (hS13.pick [1] rfl rfl)⟩
def qAheadOfQuote (N : Nat) (zb : List Int) (zg : List Int) (zl : Int) (zn : Int) (p0_4 : Int) (p0_5 : Int) (p0_6 : Int) (p0_7 : Int) (p0_8 : Int) (p0_9 : Bool) (p0_10 : Bool) (p0_11 : Bool) : Option (Int × Bool) :=
 ((pIs N zb zg zl zn p0_4 p0_5 p0_6 p0_7 p0_8 p0_9 p0_10 p0_11 p0_4 ([22])).bind fun b11 => (match b11 with | true => ((pOpens N zb zg zl zn p0_4 p0_5 p0_6 p0_7 p0_8 p0_9 p0_10 p0_11 p0_4).bind fun b17 => some (0, (!b17))) | false => some (0, false)))
def qAheadOfQuote_R (zb : List Int) (zg : List Int) (zl : Int) (zn : Int) (p0_4 : Int) (p0_5 : Int) (p0_6 : Int) (p0_7 : Int) (p0_8 : Int) (p0_9 : Bool) (p0_10 : Bool) (p0_11 : Bool) (g0 : Nat) (zA : Option Addr) (zc : Nat) (A0_1 : Option Addr) (c0_1 : Nat) (r : Int × Bool) (w0 : World) (v : Value) (w : World) : Prop := v = .tuple #[.int .u8 r.1, .bool r.2] ∧ St (foots [plE g0 zA zc A0_1 c0_1 zb zg zl zn p0_4 p0_5 p0_6 p0_7 p0_8 p0_9 p0_10 p0_11]) w0 w [plE g0 zA zc A0_1 c0_1 zb zg zl zn p0_4 p0_5 p0_6 p0_7 p0_8 p0_9 p0_10 p0_11]
theorem qAheadOfQuote_ok (N : Nat) (zb : List Int) (zg : List Int) (zl : Int) (zn : Int) (p0_4 : Int) (p0_5 : Int) (p0_6 : Int) (p0_7 : Int) (p0_8 : Int) (p0_9 : Bool) (p0_10 : Bool) (p0_11 : Bool) (g0 : Nat) (zA : Option Addr) (zc : Nat) (A0_1 : Option Addr) (c0_1 : Nat) (r : Int × Bool) (hF : qAheadOfQuote N zb zg zl zn p0_4 p0_5 p0_6 p0_7 p0_8 p0_9 p0_10 p0_11 = some r) (w0 : World) (hv0_0 : Vw (foots [plE g0 zA zc A0_1 c0_1 zb zg zl zn p0_4 p0_5 p0_6 p0_7 p0_8 p0_9 p0_10 p0_11]) .i32 w0 zA zc zb) (hv0_1 : Vw (foots [plE g0 zA zc A0_1 c0_1 zb zg zl zn p0_4 p0_5 p0_6 p0_7 p0_8 p0_9 p0_10 p0_11]) .u8 w0 A0_1 c0_1 zg) (hl : St (foots [plE g0 zA zc A0_1 c0_1 zb zg zl zn p0_4 p0_5 p0_6 p0_7 p0_8 p0_9 p0_10 p0_11]) w0 w0 [plE g0 zA zc A0_1 c0_1 zb zg zl zn p0_4 p0_5 p0_6 p0_7 p0_8 p0_9 p0_10 p0_11]) :
  Calls Tryz.prog 40 #[.pointer (some ⟨g0, 0, none⟩)] w0 fun e w => ∃ v, e = .returned v ∧ qAheadOfQuote_R zb zg zl zn p0_4 p0_5 p0_6 p0_7 p0_8 p0_9 p0_10 p0_11 g0 zA zc A0_1 c0_1 r w0 v w := by
 have hS0 := hl
 unfold qAheadOfQuote at hF
 refine calls_of Tryz.func40 rfl ⟨((vP g0) :: un 23 ([])).toArray, []⟩ (by kernel_rfl) (gx_seq (fun K1 hK2 => gx_region (gx_k (.int .u8 0) w0 (gx_k (.bool false) w0 (gx_nil (gx_thenN (hK2 _ _ (gx_seq (fun K3 hK4 => ?_)))))))))
 refine gdst (fun w => St (foots [plE g0 zA zc A0_1 c0_1 zb zg zl zn p0_4 p0_5 p0_6 p0_7 p0_8 p0_9 p0_10 p0_11]) w0 w [plE g0 zA zc A0_1 c0_1 zb zg zl zn p0_4 p0_5 p0_6 p0_7 p0_8 p0_9 p0_10 p0_11]) 22 ?_
 have hS6 := hS0.drew
 generalize w0.drew = w5 at hS6 ⊢
 refine gv1 0 4 (vP g0) rfl hS6 (gv1 1 5 (vP g0) rfl hS6 (gv1 2 6 (vP g0) rfl hS6 (gv1 3 7 (vP g0) rfl hS6 (gv1 4 8 (vP g0) rfl hS6 (gv1 5 9 (vQ g0 4) rfl hS6 (gu1 6 10 (i6 p0_4) rfl hS6 (fun w hSw => rl1 (hSw.box 0 rfl 4 rfl)) (gdR 7 ⟨some 11, _, _, _, _, _⟩ rfl (st_made .u8 5 [22] hS6 (by show 1 ≤ 1000000000; decide) (by kernel_rfl)) ?_)))))))
 rintro _ w7 ⟨rfl, hS8⟩
 have hS8 : St _ _ w7 [plE g0 zA zc A0_1 c0_1 zb zg zl zn p0_4 p0_5 p0_6 p0_7 p0_8 p0_9 p0_10 p0_11, rowE .u8 5 (some ⟨w5.heap.size, 0, none⟩) 1 ([22])] := hS8
 refine ⟨(hS8.pick [0] rfl rfl), ?_⟩
 have hP9 : St _ _ w7 ([plE g0 zA zc A0_1 c0_1 zb zg zl zn p0_4 p0_5 p0_6 p0_7 p0_8 p0_9 p0_10 p0_11] ++ [rowE .u8 5 (some ⟨w5.heap.size, 0, none⟩) 1 ([22])]) := hS8
 obtain ⟨b11, hc10, hF⟩ := bind_in hF
 try dsimp only at hF
 refine gdC 8 ⟨some 12, _, _, _, _, _⟩ _ rfl (by kernel_rfl) (pIs_ok N zb zg zl zn p0_4 p0_5 p0_6 p0_7 p0_8 p0_9 p0_10 p0_11 p0_4 ([22]) g0 zA zc A0_1 c0_1 (some ⟨w5.heap.size, 0, none⟩) 1 _ hc10 w7 (hP9.vwA hv0_0) (hP9.vwA hv0_1) (hP9.vwB 0 rfl) hP9.part) ?_
 rintro _ w12 ⟨rfl, hT14⟩
 have hS13 : St _ _ w12 [rowE .u8 5 (some ⟨w5.heap.size, 0, none⟩) 1 ([22]), plE g0 zA zc A0_1 c0_1 zb zg zl zn p0_4 p0_5 p0_6 p0_7 p0_8 p0_9 p0_10 p0_11] := hP9.lendN _ hT14
 refine ⟨(hS13.pick [1] rfl rfl), gv1 9 13 (.bool b11) rfl (hS13.pick [1] rfl rfl) ?_⟩
 rcases b11 with _ | _
 try dsimp only at hF
 refine gz1 10 14 rfl (hS13.pick [1] rfl rfl) (gz1 11 15 rfl (hS13.pick [1] rfl rfl) (gz1 12 16 rfl (hS13.pick [1] rfl rfl) (gz1 13 17 rfl (hS13.pick [1] rfl rfl) (gz1 14 18 rfl (hS13.pick [1] rfl rfl) (gz1 15 19 rfl (hS13.pick [1] rfl rfl) (gz1 16 20 rfl (hS13.pick [1] rfl rfl) (gz1 17 21 rfl (hS13.pick [1] rfl rfl) ?_)))))))
 refine gz1 18 22 rfl (hS13.pick [1] rfl rfl) (gv1 19 23 (.bool false) rfl (hS13.pick [1] rfl rfl) (gv1 20 2 (.int .u8 0) rfl (hS13.pick [1] rfl rfl) (gv1 21 3 (.bool false) rfl (hS13.pick [1] rfl rfl) (gd_done (by kernel_rfl) (gx_thenN (hK4 _ _ (gx_ret ?_)))))))
 obtain rfl := sj hF
 exact gxF (.tuple #[.int .u8 0, .bool false]) ⟨_, rfl, rfl, (hS13.pick [1] rfl rfl)⟩
 try dsimp only at hF
 refine gv1 10 14 (vP g0) rfl (hS13.pick [1] rfl rfl) (gv1 11 15 (vP g0) rfl (hS13.pick [1] rfl rfl) (gv1 12 16 (vP g0) rfl (hS13.pick [1] rfl rfl) (gv1 13 17 (vP g0) rfl (hS13.pick [1] rfl rfl) (gv1 14 18 (vP g0) rfl (hS13.pick [1] rfl rfl) (gv1 15 19 (vQ g0 4) rfl (hS13.pick [1] rfl rfl) (gu1 16 20 (i6 p0_4) rfl (hS13.pick [1] rfl rfl) (fun w hSw => rl1 (hSw.box 0 rfl 4 rfl)) ?_))))))
 have hP15 : St _ _ w12 ([plE g0 zA zc A0_1 c0_1 zb zg zl zn p0_4 p0_5 p0_6 p0_7 p0_8 p0_9 p0_10 p0_11] ++ [rowE .u8 5 (some ⟨w5.heap.size, 0, none⟩) 1 ([22])]) := hS13.pick [1, 0] rfl rfl
 obtain ⟨b17, hc16, hF⟩ := bind_in hF
 try dsimp only at hF
 refine gdC 17 ⟨some 21, _, _, _, _, _⟩ _ rfl (by kernel_rfl) (pOpens_ok N zb zg zl zn p0_4 p0_5 p0_6 p0_7 p0_8 p0_9 p0_10 p0_11 p0_4 g0 zA zc A0_1 c0_1 _ hc16 w12 (hP15.vwA hv0_0) (hP15.vwA hv0_1) hP15.part) ?_
 rintro _ w18 ⟨rfl, hT20⟩
 have hS19 : St _ _ w18 [rowE .u8 5 (some ⟨w5.heap.size, 0, none⟩) 1 ([22]), plE g0 zA zc A0_1 c0_1 zb zg zl zn p0_4 p0_5 p0_6 p0_7 p0_8 p0_9 p0_10 p0_11] := hP15.lendN _ hT20
 refine ⟨(hS19.pick [1] rfl rfl), gv1 18 22 (.bool (!b17)) rfl (hS19.pick [1] rfl rfl) (gv1 19 23 (.bool (!b17)) rfl (hS19.pick [1] rfl rfl) (gv1 20 2 (.int .u8 0) rfl (hS19.pick [1] rfl rfl) (gv1 21 3 (.bool (!b17)) rfl (hS19.pick [1] rfl rfl) (gd_done (by kernel_rfl) (gx_thenN (hK4 _ _ ?_))))))⟩
 refine gx_ret ?_
 obtain rfl := sj hF
 exact gxF (.tuple #[.int .u8 0, .bool (!b17)]) ⟨_, rfl, rfl, (hS19.pick [1] rfl rfl)⟩
def qBehindQuote (N : Nat) (zb : List Int) (zg : List Int) (zl : Int) (zn : Int) (p0_4 : Int) (p0_5 : Int) (p0_6 : Int) (p0_7 : Int) (p0_8 : Int) (p0_9 : Bool) (p0_10 : Bool) (p0_11 : Bool) : Option (Int × Bool) :=
 ((pIs N zb zg zl zn p0_4 p0_5 p0_6 p0_7 p0_8 p0_9 p0_10 p0_11 zn ([22])).bind fun b11 => (match b11 with | true => ((pCloses N zb zg zl zn p0_4 p0_5 p0_6 p0_7 p0_8 p0_9 p0_10 p0_11 zn).bind fun b17 => some (0, (!b17))) | false => some (0, false)))
def qBehindQuote_R (zb : List Int) (zg : List Int) (zl : Int) (zn : Int) (p0_4 : Int) (p0_5 : Int) (p0_6 : Int) (p0_7 : Int) (p0_8 : Int) (p0_9 : Bool) (p0_10 : Bool) (p0_11 : Bool) (g0 : Nat) (zA : Option Addr) (zc : Nat) (A0_1 : Option Addr) (c0_1 : Nat) (r : Int × Bool) (w0 : World) (v : Value) (w : World) : Prop := v = .tuple #[.int .u8 r.1, .bool r.2] ∧ St (foots [plE g0 zA zc A0_1 c0_1 zb zg zl zn p0_4 p0_5 p0_6 p0_7 p0_8 p0_9 p0_10 p0_11]) w0 w [plE g0 zA zc A0_1 c0_1 zb zg zl zn p0_4 p0_5 p0_6 p0_7 p0_8 p0_9 p0_10 p0_11]
theorem qBehindQuote_ok (N : Nat) (zb : List Int) (zg : List Int) (zl : Int) (zn : Int) (p0_4 : Int) (p0_5 : Int) (p0_6 : Int) (p0_7 : Int) (p0_8 : Int) (p0_9 : Bool) (p0_10 : Bool) (p0_11 : Bool) (g0 : Nat) (zA : Option Addr) (zc : Nat) (A0_1 : Option Addr) (c0_1 : Nat) (r : Int × Bool) (hF : qBehindQuote N zb zg zl zn p0_4 p0_5 p0_6 p0_7 p0_8 p0_9 p0_10 p0_11 = some r) (w0 : World) (hv0_0 : Vw (foots [plE g0 zA zc A0_1 c0_1 zb zg zl zn p0_4 p0_5 p0_6 p0_7 p0_8 p0_9 p0_10 p0_11]) .i32 w0 zA zc zb) (hv0_1 : Vw (foots [plE g0 zA zc A0_1 c0_1 zb zg zl zn p0_4 p0_5 p0_6 p0_7 p0_8 p0_9 p0_10 p0_11]) .u8 w0 A0_1 c0_1 zg) (hl : St (foots [plE g0 zA zc A0_1 c0_1 zb zg zl zn p0_4 p0_5 p0_6 p0_7 p0_8 p0_9 p0_10 p0_11]) w0 w0 [plE g0 zA zc A0_1 c0_1 zb zg zl zn p0_4 p0_5 p0_6 p0_7 p0_8 p0_9 p0_10 p0_11]) :
  Calls Tryz.prog 41 #[.pointer (some ⟨g0, 0, none⟩)] w0 fun e w => ∃ v, e = .returned v ∧ qBehindQuote_R zb zg zl zn p0_4 p0_5 p0_6 p0_7 p0_8 p0_9 p0_10 p0_11 g0 zA zc A0_1 c0_1 r w0 v w := by
 have hS0 := hl
 unfold qBehindQuote at hF
 refine calls_of Tryz.func41 rfl ⟨((vP g0) :: un 23 ([])).toArray, []⟩ (by kernel_rfl) (gx_seq (fun K1 hK2 => gx_region (gx_k (.int .u8 0) w0 (gx_k (.bool false) w0 (gx_nil (gx_thenN (hK2 _ _ (gx_seq (fun K3 hK4 => ?_)))))))))
 refine gdst (fun w => St (foots [plE g0 zA zc A0_1 c0_1 zb zg zl zn p0_4 p0_5 p0_6 p0_7 p0_8 p0_9 p0_10 p0_11]) w0 w [plE g0 zA zc A0_1 c0_1 zb zg zl zn p0_4 p0_5 p0_6 p0_7 p0_8 p0_9 p0_10 p0_11]) 22 ?_
 have hS6 := hS0.drew
 generalize w0.drew = w5 at hS6 ⊢
 refine gv1 0 4 (vP g0) rfl hS6 (gv1 1 5 (vP g0) rfl hS6 (gv1 2 6 (vP g0) rfl hS6 (gv1 3 7 (vP g0) rfl hS6 (gv1 4 8 (vP g0) rfl hS6 (gv1 5 9 (vQ g0 3) rfl hS6 (gu1 6 10 (i6 zn) rfl hS6 (fun w hSw => rl1 (hSw.box 0 rfl 3 rfl)) (gdR 7 ⟨some 11, _, _, _, _, _⟩ rfl (st_made .u8 5 [22] hS6 (by show 1 ≤ 1000000000; decide) (by kernel_rfl)) ?_)))))))
 rintro _ w7 ⟨rfl, hS8⟩
 have hS8 : St _ _ w7 [plE g0 zA zc A0_1 c0_1 zb zg zl zn p0_4 p0_5 p0_6 p0_7 p0_8 p0_9 p0_10 p0_11, rowE .u8 5 (some ⟨w5.heap.size, 0, none⟩) 1 ([22])] := hS8
 refine ⟨(hS8.pick [0] rfl rfl), ?_⟩
 have hP9 : St _ _ w7 ([plE g0 zA zc A0_1 c0_1 zb zg zl zn p0_4 p0_5 p0_6 p0_7 p0_8 p0_9 p0_10 p0_11] ++ [rowE .u8 5 (some ⟨w5.heap.size, 0, none⟩) 1 ([22])]) := hS8
 obtain ⟨b11, hc10, hF⟩ := bind_in hF
 try dsimp only at hF
 refine gdC 8 ⟨some 12, _, _, _, _, _⟩ _ rfl (by kernel_rfl) (pIs_ok N zb zg zl zn p0_4 p0_5 p0_6 p0_7 p0_8 p0_9 p0_10 p0_11 zn ([22]) g0 zA zc A0_1 c0_1 (some ⟨w5.heap.size, 0, none⟩) 1 _ hc10 w7 (hP9.vwA hv0_0) (hP9.vwA hv0_1) (hP9.vwB 0 rfl) hP9.part) ?_
 rintro _ w12 ⟨rfl, hT14⟩
 have hS13 : St _ _ w12 [rowE .u8 5 (some ⟨w5.heap.size, 0, none⟩) 1 ([22]), plE g0 zA zc A0_1 c0_1 zb zg zl zn p0_4 p0_5 p0_6 p0_7 p0_8 p0_9 p0_10 p0_11] := hP9.lendN _ hT14
 refine ⟨(hS13.pick [1] rfl rfl), gv1 9 13 (.bool b11) rfl (hS13.pick [1] rfl rfl) ?_⟩
 rcases b11 with _ | _
 try dsimp only at hF
 refine gz1 10 14 rfl (hS13.pick [1] rfl rfl) (gz1 11 15 rfl (hS13.pick [1] rfl rfl) (gz1 12 16 rfl (hS13.pick [1] rfl rfl) (gz1 13 17 rfl (hS13.pick [1] rfl rfl) (gz1 14 18 rfl (hS13.pick [1] rfl rfl) (gz1 15 19 rfl (hS13.pick [1] rfl rfl) (gz1 16 20 rfl (hS13.pick [1] rfl rfl) (gz1 17 21 rfl (hS13.pick [1] rfl rfl) ?_)))))))
 refine gz1 18 22 rfl (hS13.pick [1] rfl rfl) (gv1 19 23 (.bool false) rfl (hS13.pick [1] rfl rfl) (gv1 20 2 (.int .u8 0) rfl (hS13.pick [1] rfl rfl) (gv1 21 3 (.bool false) rfl (hS13.pick [1] rfl rfl) (gd_done (by kernel_rfl) (gx_thenN (hK4 _ _ (gx_ret ?_)))))))
 obtain rfl := sj hF
 exact gxF (.tuple #[.int .u8 0, .bool false]) ⟨_, rfl, rfl, (hS13.pick [1] rfl rfl)⟩
 try dsimp only at hF
 refine gv1 10 14 (vP g0) rfl (hS13.pick [1] rfl rfl) (gv1 11 15 (vP g0) rfl (hS13.pick [1] rfl rfl) (gv1 12 16 (vP g0) rfl (hS13.pick [1] rfl rfl) (gv1 13 17 (vP g0) rfl (hS13.pick [1] rfl rfl) (gv1 14 18 (vP g0) rfl (hS13.pick [1] rfl rfl) (gv1 15 19 (vQ g0 3) rfl (hS13.pick [1] rfl rfl) (gu1 16 20 (i6 zn) rfl (hS13.pick [1] rfl rfl) (fun w hSw => rl1 (hSw.box 0 rfl 3 rfl)) ?_))))))
 have hP15 : St _ _ w12 ([plE g0 zA zc A0_1 c0_1 zb zg zl zn p0_4 p0_5 p0_6 p0_7 p0_8 p0_9 p0_10 p0_11] ++ [rowE .u8 5 (some ⟨w5.heap.size, 0, none⟩) 1 ([22])]) := hS13.pick [1, 0] rfl rfl
 obtain ⟨b17, hc16, hF⟩ := bind_in hF
 try dsimp only at hF
 refine gdC 17 ⟨some 21, _, _, _, _, _⟩ _ rfl (by kernel_rfl) (pCloses_ok N zb zg zl zn p0_4 p0_5 p0_6 p0_7 p0_8 p0_9 p0_10 p0_11 zn g0 zA zc A0_1 c0_1 _ hc16 w12 (hP15.vwA hv0_0) (hP15.vwA hv0_1) hP15.part) ?_
 rintro _ w18 ⟨rfl, hT20⟩
 have hS19 : St _ _ w18 [rowE .u8 5 (some ⟨w5.heap.size, 0, none⟩) 1 ([22]), plE g0 zA zc A0_1 c0_1 zb zg zl zn p0_4 p0_5 p0_6 p0_7 p0_8 p0_9 p0_10 p0_11] := hP15.lendN _ hT20
 refine ⟨(hS19.pick [1] rfl rfl), gv1 18 22 (.bool (!b17)) rfl (hS19.pick [1] rfl rfl) (gv1 19 23 (.bool (!b17)) rfl (hS19.pick [1] rfl rfl) (gv1 20 2 (.int .u8 0) rfl (hS19.pick [1] rfl rfl) (gv1 21 3 (.bool (!b17)) rfl (hS19.pick [1] rfl rfl) (gd_done (by kernel_rfl) (gx_thenN (hK4 _ _ ?_))))))⟩
 refine gx_ret ?_
 obtain rfl := sj hF
 exact gxF (.tuple #[.int .u8 0, .bool (!b17)]) ⟨_, rfl, rfl, (hS19.pick [1] rfl rfl)⟩
def qAheadOfNarrowQuote (N : Nat) (zb : List Int) (zg : List Int) (zl : Int) (zn : Int) (p0_4 : Int) (p0_5 : Int) (p0_6 : Int) (p0_7 : Int) (p0_8 : Int) (p0_9 : Bool) (p0_10 : Bool) (p0_11 : Bool) : Option (Int × Bool) :=
 ((pIs N zb zg zl zn p0_4 p0_5 p0_6 p0_7 p0_8 p0_9 p0_10 p0_11 p0_4 ([22])).bind fun b11 => (match b11 with | true => ((pWide N zb zg zl zn p0_4 p0_5 p0_6 p0_7 p0_8 p0_9 p0_10 p0_11 zn).bind fun b17 => (match b17 with | true => ((pWide N zb zg zl zn p0_4 p0_5 p0_6 p0_7 p0_8 p0_9 p0_10 p0_11 p0_5).bind fun b23 => some (0, (!b23))) | false => some (0, true))) | false => some (0, false)))
def qAheadOfNarrowQuote_R (zb : List Int) (zg : List Int) (zl : Int) (zn : Int) (p0_4 : Int) (p0_5 : Int) (p0_6 : Int) (p0_7 : Int) (p0_8 : Int) (p0_9 : Bool) (p0_10 : Bool) (p0_11 : Bool) (g0 : Nat) (zA : Option Addr) (zc : Nat) (A0_1 : Option Addr) (c0_1 : Nat) (r : Int × Bool) (w0 : World) (v : Value) (w : World) : Prop := v = .tuple #[.int .u8 r.1, .bool r.2] ∧ St (foots [plE g0 zA zc A0_1 c0_1 zb zg zl zn p0_4 p0_5 p0_6 p0_7 p0_8 p0_9 p0_10 p0_11]) w0 w [plE g0 zA zc A0_1 c0_1 zb zg zl zn p0_4 p0_5 p0_6 p0_7 p0_8 p0_9 p0_10 p0_11]
theorem qAheadOfNarrowQuote_ok (N : Nat) (zb : List Int) (zg : List Int) (zl : Int) (zn : Int) (p0_4 : Int) (p0_5 : Int) (p0_6 : Int) (p0_7 : Int) (p0_8 : Int) (p0_9 : Bool) (p0_10 : Bool) (p0_11 : Bool) (g0 : Nat) (zA : Option Addr) (zc : Nat) (A0_1 : Option Addr) (c0_1 : Nat) (r : Int × Bool) (hF : qAheadOfNarrowQuote N zb zg zl zn p0_4 p0_5 p0_6 p0_7 p0_8 p0_9 p0_10 p0_11 = some r) (w0 : World) (hv0_0 : Vw (foots [plE g0 zA zc A0_1 c0_1 zb zg zl zn p0_4 p0_5 p0_6 p0_7 p0_8 p0_9 p0_10 p0_11]) .i32 w0 zA zc zb) (hv0_1 : Vw (foots [plE g0 zA zc A0_1 c0_1 zb zg zl zn p0_4 p0_5 p0_6 p0_7 p0_8 p0_9 p0_10 p0_11]) .u8 w0 A0_1 c0_1 zg) (hl : St (foots [plE g0 zA zc A0_1 c0_1 zb zg zl zn p0_4 p0_5 p0_6 p0_7 p0_8 p0_9 p0_10 p0_11]) w0 w0 [plE g0 zA zc A0_1 c0_1 zb zg zl zn p0_4 p0_5 p0_6 p0_7 p0_8 p0_9 p0_10 p0_11]) :
  Calls Tryz.prog 42 #[.pointer (some ⟨g0, 0, none⟩)] w0 fun e w => ∃ v, e = .returned v ∧ qAheadOfNarrowQuote_R zb zg zl zn p0_4 p0_5 p0_6 p0_7 p0_8 p0_9 p0_10 p0_11 g0 zA zc A0_1 c0_1 r w0 v w := by
 have hS0 := hl
 unfold qAheadOfNarrowQuote at hF
 refine calls_of Tryz.func42 rfl ⟨((vP g0) :: un 33 ([])).toArray, []⟩ (by kernel_rfl) (gx_seq (fun K1 hK2 => gx_region (gx_k (.int .u8 0) w0 (gx_k (.bool false) w0 (gx_nil (gx_thenN (hK2 _ _ (gx_seq (fun K3 hK4 => ?_)))))))))
 refine gdst (fun w => St (foots [plE g0 zA zc A0_1 c0_1 zb zg zl zn p0_4 p0_5 p0_6 p0_7 p0_8 p0_9 p0_10 p0_11]) w0 w [plE g0 zA zc A0_1 c0_1 zb zg zl zn p0_4 p0_5 p0_6 p0_7 p0_8 p0_9 p0_10 p0_11]) 32 ?_
 have hS6 := hS0.drew
 generalize w0.drew = w5 at hS6 ⊢
 refine gv1 0 4 (vP g0) rfl hS6 (gv1 1 5 (vP g0) rfl hS6 (gv1 2 6 (vP g0) rfl hS6 (gv1 3 7 (vP g0) rfl hS6 (gv1 4 8 (vP g0) rfl hS6 (gv1 5 9 (vQ g0 4) rfl hS6 (gu1 6 10 (i6 p0_4) rfl hS6 (fun w hSw => rl1 (hSw.box 0 rfl 4 rfl)) (gdR 7 ⟨some 11, _, _, _, _, _⟩ rfl (st_made .u8 5 [22] hS6 (by show 1 ≤ 1000000000; decide) (by kernel_rfl)) ?_)))))))
 rintro _ w7 ⟨rfl, hS8⟩
 have hS8 : St _ _ w7 [plE g0 zA zc A0_1 c0_1 zb zg zl zn p0_4 p0_5 p0_6 p0_7 p0_8 p0_9 p0_10 p0_11, rowE .u8 5 (some ⟨w5.heap.size, 0, none⟩) 1 ([22])] := hS8
 refine ⟨(hS8.pick [0] rfl rfl), ?_⟩
 have hP9 : St _ _ w7 ([plE g0 zA zc A0_1 c0_1 zb zg zl zn p0_4 p0_5 p0_6 p0_7 p0_8 p0_9 p0_10 p0_11] ++ [rowE .u8 5 (some ⟨w5.heap.size, 0, none⟩) 1 ([22])]) := hS8
 obtain ⟨b11, hc10, hF⟩ := bind_in hF
 try dsimp only at hF
 refine gdC 8 ⟨some 12, _, _, _, _, _⟩ _ rfl (by kernel_rfl) (pIs_ok N zb zg zl zn p0_4 p0_5 p0_6 p0_7 p0_8 p0_9 p0_10 p0_11 p0_4 ([22]) g0 zA zc A0_1 c0_1 (some ⟨w5.heap.size, 0, none⟩) 1 _ hc10 w7 (hP9.vwA hv0_0) (hP9.vwA hv0_1) (hP9.vwB 0 rfl) hP9.part) ?_
 rintro _ w12 ⟨rfl, hT14⟩
 have hS13 : St _ _ w12 [rowE .u8 5 (some ⟨w5.heap.size, 0, none⟩) 1 ([22]), plE g0 zA zc A0_1 c0_1 zb zg zl zn p0_4 p0_5 p0_6 p0_7 p0_8 p0_9 p0_10 p0_11] := hP9.lendN _ hT14
 refine ⟨(hS13.pick [1] rfl rfl), gv1 9 13 (.bool b11) rfl (hS13.pick [1] rfl rfl) ?_⟩
 rcases b11 with _ | _
 try dsimp only at hF
 refine gz1 10 14 rfl (hS13.pick [1] rfl rfl) (gz1 11 15 rfl (hS13.pick [1] rfl rfl) (gz1 12 16 rfl (hS13.pick [1] rfl rfl) (gz1 13 17 rfl (hS13.pick [1] rfl rfl) (gz1 14 18 rfl (hS13.pick [1] rfl rfl) (gz1 15 19 rfl (hS13.pick [1] rfl rfl) (gz1 16 20 rfl (hS13.pick [1] rfl rfl) (gz1 17 21 rfl (hS13.pick [1] rfl rfl) ?_)))))))
 refine gz1 18 22 rfl (hS13.pick [1] rfl rfl) (gz1 19 23 rfl (hS13.pick [1] rfl rfl) (gz1 20 24 rfl (hS13.pick [1] rfl rfl) (gz1 21 25 rfl (hS13.pick [1] rfl rfl) (gz1 22 26 rfl (hS13.pick [1] rfl rfl) (gz1 23 27 rfl (hS13.pick [1] rfl rfl) (gz1 24 28 rfl (hS13.pick [1] rfl rfl) (gz1 25 29 rfl (hS13.pick [1] rfl rfl) ?_)))))))
 refine gz1 26 30 rfl (hS13.pick [1] rfl rfl) (gz1 27 31 rfl (hS13.pick [1] rfl rfl) (gz1 28 32 rfl (hS13.pick [1] rfl rfl) (gv1 29 33 (.bool false) rfl (hS13.pick [1] rfl rfl) (gv1 30 2 (.int .u8 0) rfl (hS13.pick [1] rfl rfl) (gv1 31 3 (.bool false) rfl (hS13.pick [1] rfl rfl) (gd_done (by kernel_rfl) (gx_thenN ?_)))))))
 refine hK4 _ _ (gx_ret ?_)
 obtain rfl := sj hF
 exact gxF (.tuple #[.int .u8 0, .bool false]) ⟨_, rfl, rfl, (hS13.pick [1] rfl rfl)⟩
 try dsimp only at hF
 refine gv1 10 14 (vP g0) rfl (hS13.pick [1] rfl rfl) (gv1 11 15 (vP g0) rfl (hS13.pick [1] rfl rfl) (gv1 12 16 (vP g0) rfl (hS13.pick [1] rfl rfl) (gv1 13 17 (vP g0) rfl (hS13.pick [1] rfl rfl) (gv1 14 18 (vP g0) rfl (hS13.pick [1] rfl rfl) (gv1 15 19 (vQ g0 3) rfl (hS13.pick [1] rfl rfl) (gu1 16 20 (i6 zn) rfl (hS13.pick [1] rfl rfl) (fun w hSw => rl1 (hSw.box 0 rfl 3 rfl)) ?_))))))
 have hP15 : St _ _ w12 ([plE g0 zA zc A0_1 c0_1 zb zg zl zn p0_4 p0_5 p0_6 p0_7 p0_8 p0_9 p0_10 p0_11] ++ [rowE .u8 5 (some ⟨w5.heap.size, 0, none⟩) 1 ([22])]) := hS13.pick [1, 0] rfl rfl
 obtain ⟨b17, hc16, hF⟩ := bind_in hF
 try dsimp only at hF
 refine gdC 17 ⟨some 21, _, _, _, _, _⟩ _ rfl (by kernel_rfl) (pWide_ok N zb zg zl zn p0_4 p0_5 p0_6 p0_7 p0_8 p0_9 p0_10 p0_11 zn g0 zA zc A0_1 c0_1 _ hc16 w12 (hP15.vwA hv0_0) (hP15.vwA hv0_1) hP15.part) ?_
 rintro _ w18 ⟨rfl, hT20⟩
 have hS19 : St _ _ w18 [rowE .u8 5 (some ⟨w5.heap.size, 0, none⟩) 1 ([22]), plE g0 zA zc A0_1 c0_1 zb zg zl zn p0_4 p0_5 p0_6 p0_7 p0_8 p0_9 p0_10 p0_11] := hP15.lendN _ hT20
 refine ⟨(hS19.pick [1] rfl rfl), gv1 18 22 (.bool b17) rfl (hS19.pick [1] rfl rfl) ?_⟩
 rcases b17 with _ | _
 try dsimp only at hF
 refine gz1 19 23 rfl (hS19.pick [1] rfl rfl) (gz1 20 24 rfl (hS19.pick [1] rfl rfl) (gz1 21 25 rfl (hS19.pick [1] rfl rfl) (gz1 22 26 rfl (hS19.pick [1] rfl rfl) (gz1 23 27 rfl (hS19.pick [1] rfl rfl) (gz1 24 28 rfl (hS19.pick [1] rfl rfl) (gz1 25 29 rfl (hS19.pick [1] rfl rfl) (gz1 26 30 rfl (hS19.pick [1] rfl rfl) ?_)))))))
 refine gv1 27 31 (.bool false) rfl (hS19.pick [1] rfl rfl) (gv1 28 32 (.bool true) rfl (hS19.pick [1] rfl rfl) (gv1 29 33 (.bool true) rfl (hS19.pick [1] rfl rfl) (gv1 30 2 (.int .u8 0) rfl (hS19.pick [1] rfl rfl) (gv1 31 3 (.bool true) rfl (hS19.pick [1] rfl rfl) (gd_done (by kernel_rfl) (gx_thenN (hK4 _ _ ?_)))))))
 refine gx_ret ?_
 obtain rfl := sj hF
 exact gxF (.tuple #[.int .u8 0, .bool true]) ⟨_, rfl, rfl, (hS19.pick [1] rfl rfl)⟩
 try dsimp only at hF
 refine gv1 19 23 (vP g0) rfl (hS19.pick [1] rfl rfl) (gv1 20 24 (vP g0) rfl (hS19.pick [1] rfl rfl) (gv1 21 25 (vP g0) rfl (hS19.pick [1] rfl rfl) (gv1 22 26 (vP g0) rfl (hS19.pick [1] rfl rfl) (gv1 23 27 (vP g0) rfl (hS19.pick [1] rfl rfl) (gv1 24 28 (vQ g0 5) rfl (hS19.pick [1] rfl rfl) (gu1 25 29 (i6 p0_5) rfl (hS19.pick [1] rfl rfl) (fun w hSw => rl1 (hSw.box 0 rfl 5 rfl)) ?_))))))
 have hP21 : St _ _ w18 ([plE g0 zA zc A0_1 c0_1 zb zg zl zn p0_4 p0_5 p0_6 p0_7 p0_8 p0_9 p0_10 p0_11] ++ [rowE .u8 5 (some ⟨w5.heap.size, 0, none⟩) 1 ([22])]) := hS19.pick [1, 0] rfl rfl
 obtain ⟨b23, hc22, hF⟩ := bind_in hF
 try dsimp only at hF
 refine gdC 26 ⟨some 30, _, _, _, _, _⟩ _ rfl (by kernel_rfl) (pWide_ok N zb zg zl zn p0_4 p0_5 p0_6 p0_7 p0_8 p0_9 p0_10 p0_11 p0_5 g0 zA zc A0_1 c0_1 _ hc22 w18 (hP21.vwA hv0_0) (hP21.vwA hv0_1) hP21.part) ?_
 rintro _ w24 ⟨rfl, hT26⟩
 have hS25 : St _ _ w24 [rowE .u8 5 (some ⟨w5.heap.size, 0, none⟩) 1 ([22]), plE g0 zA zc A0_1 c0_1 zb zg zl zn p0_4 p0_5 p0_6 p0_7 p0_8 p0_9 p0_10 p0_11] := hP21.lendN _ hT26
 refine ⟨(hS25.pick [1] rfl rfl), gv1 27 31 (.bool b23) rfl (hS25.pick [1] rfl rfl) (gv1 28 32 (.bool (!b23)) rfl (hS25.pick [1] rfl rfl) (gv1 29 33 (.bool (!b23)) rfl (hS25.pick [1] rfl rfl) (gv1 30 2 (.int .u8 0) rfl (hS25.pick [1] rfl rfl) (gv1 31 3 (.bool (!b23)) rfl (hS25.pick [1] rfl rfl) (gd_done (by kernel_rfl) (gx_thenN ?_))))))⟩
 refine hK4 _ _ (gx_ret ?_)
 obtain rfl := sj hF
 exact gxF (.tuple #[.int .u8 0, .bool (!b23)]) ⟨_, rfl, rfl, (hS25.pick [1] rfl rfl)⟩
def qBehindNarrowQuote (N : Nat) (zb : List Int) (zg : List Int) (zl : Int) (zn : Int) (p0_4 : Int) (p0_5 : Int) (p0_6 : Int) (p0_7 : Int) (p0_8 : Int) (p0_9 : Bool) (p0_10 : Bool) (p0_11 : Bool) : Option (Int × Bool) :=
 ((pIs N zb zg zl zn p0_4 p0_5 p0_6 p0_7 p0_8 p0_9 p0_10 p0_11 zn ([22])).bind fun b11 => (match b11 with | true => ((pWide N zb zg zl zn p0_4 p0_5 p0_6 p0_7 p0_8 p0_9 p0_10 p0_11 p0_4).bind fun b17 => (match b17 with | true => ((pWide N zb zg zl zn p0_4 p0_5 p0_6 p0_7 p0_8 p0_9 p0_10 p0_11 zl).bind fun b23 => some (0, (!b23))) | false => some (0, true))) | false => some (0, false)))
def qBehindNarrowQuote_R (zb : List Int) (zg : List Int) (zl : Int) (zn : Int) (p0_4 : Int) (p0_5 : Int) (p0_6 : Int) (p0_7 : Int) (p0_8 : Int) (p0_9 : Bool) (p0_10 : Bool) (p0_11 : Bool) (g0 : Nat) (zA : Option Addr) (zc : Nat) (A0_1 : Option Addr) (c0_1 : Nat) (r : Int × Bool) (w0 : World) (v : Value) (w : World) : Prop := v = .tuple #[.int .u8 r.1, .bool r.2] ∧ St (foots [plE g0 zA zc A0_1 c0_1 zb zg zl zn p0_4 p0_5 p0_6 p0_7 p0_8 p0_9 p0_10 p0_11]) w0 w [plE g0 zA zc A0_1 c0_1 zb zg zl zn p0_4 p0_5 p0_6 p0_7 p0_8 p0_9 p0_10 p0_11]
theorem qBehindNarrowQuote_ok (N : Nat) (zb : List Int) (zg : List Int) (zl : Int) (zn : Int) (p0_4 : Int) (p0_5 : Int) (p0_6 : Int) (p0_7 : Int) (p0_8 : Int) (p0_9 : Bool) (p0_10 : Bool) (p0_11 : Bool) (g0 : Nat) (zA : Option Addr) (zc : Nat) (A0_1 : Option Addr) (c0_1 : Nat) (r : Int × Bool) (hF : qBehindNarrowQuote N zb zg zl zn p0_4 p0_5 p0_6 p0_7 p0_8 p0_9 p0_10 p0_11 = some r) (w0 : World) (hv0_0 : Vw (foots [plE g0 zA zc A0_1 c0_1 zb zg zl zn p0_4 p0_5 p0_6 p0_7 p0_8 p0_9 p0_10 p0_11]) .i32 w0 zA zc zb) (hv0_1 : Vw (foots [plE g0 zA zc A0_1 c0_1 zb zg zl zn p0_4 p0_5 p0_6 p0_7 p0_8 p0_9 p0_10 p0_11]) .u8 w0 A0_1 c0_1 zg) (hl : St (foots [plE g0 zA zc A0_1 c0_1 zb zg zl zn p0_4 p0_5 p0_6 p0_7 p0_8 p0_9 p0_10 p0_11]) w0 w0 [plE g0 zA zc A0_1 c0_1 zb zg zl zn p0_4 p0_5 p0_6 p0_7 p0_8 p0_9 p0_10 p0_11]) :
  Calls Tryz.prog 43 #[.pointer (some ⟨g0, 0, none⟩)] w0 fun e w => ∃ v, e = .returned v ∧ qBehindNarrowQuote_R zb zg zl zn p0_4 p0_5 p0_6 p0_7 p0_8 p0_9 p0_10 p0_11 g0 zA zc A0_1 c0_1 r w0 v w := by
 have hS0 := hl
 unfold qBehindNarrowQuote at hF
 refine calls_of Tryz.func43 rfl ⟨((vP g0) :: un 33 ([])).toArray, []⟩ (by kernel_rfl) (gx_seq (fun K1 hK2 => gx_region (gx_k (.int .u8 0) w0 (gx_k (.bool false) w0 (gx_nil (gx_thenN (hK2 _ _ (gx_seq (fun K3 hK4 => ?_)))))))))
 refine gdst (fun w => St (foots [plE g0 zA zc A0_1 c0_1 zb zg zl zn p0_4 p0_5 p0_6 p0_7 p0_8 p0_9 p0_10 p0_11]) w0 w [plE g0 zA zc A0_1 c0_1 zb zg zl zn p0_4 p0_5 p0_6 p0_7 p0_8 p0_9 p0_10 p0_11]) 32 ?_
 have hS6 := hS0.drew
 generalize w0.drew = w5 at hS6 ⊢
 refine gv1 0 4 (vP g0) rfl hS6 (gv1 1 5 (vP g0) rfl hS6 (gv1 2 6 (vP g0) rfl hS6 (gv1 3 7 (vP g0) rfl hS6 (gv1 4 8 (vP g0) rfl hS6 (gv1 5 9 (vQ g0 3) rfl hS6 (gu1 6 10 (i6 zn) rfl hS6 (fun w hSw => rl1 (hSw.box 0 rfl 3 rfl)) (gdR 7 ⟨some 11, _, _, _, _, _⟩ rfl (st_made .u8 5 [22] hS6 (by show 1 ≤ 1000000000; decide) (by kernel_rfl)) ?_)))))))
 rintro _ w7 ⟨rfl, hS8⟩
 have hS8 : St _ _ w7 [plE g0 zA zc A0_1 c0_1 zb zg zl zn p0_4 p0_5 p0_6 p0_7 p0_8 p0_9 p0_10 p0_11, rowE .u8 5 (some ⟨w5.heap.size, 0, none⟩) 1 ([22])] := hS8
 refine ⟨(hS8.pick [0] rfl rfl), ?_⟩
 have hP9 : St _ _ w7 ([plE g0 zA zc A0_1 c0_1 zb zg zl zn p0_4 p0_5 p0_6 p0_7 p0_8 p0_9 p0_10 p0_11] ++ [rowE .u8 5 (some ⟨w5.heap.size, 0, none⟩) 1 ([22])]) := hS8
 obtain ⟨b11, hc10, hF⟩ := bind_in hF
 try dsimp only at hF
 refine gdC 8 ⟨some 12, _, _, _, _, _⟩ _ rfl (by kernel_rfl) (pIs_ok N zb zg zl zn p0_4 p0_5 p0_6 p0_7 p0_8 p0_9 p0_10 p0_11 zn ([22]) g0 zA zc A0_1 c0_1 (some ⟨w5.heap.size, 0, none⟩) 1 _ hc10 w7 (hP9.vwA hv0_0) (hP9.vwA hv0_1) (hP9.vwB 0 rfl) hP9.part) ?_
 rintro _ w12 ⟨rfl, hT14⟩
 have hS13 : St _ _ w12 [rowE .u8 5 (some ⟨w5.heap.size, 0, none⟩) 1 ([22]), plE g0 zA zc A0_1 c0_1 zb zg zl zn p0_4 p0_5 p0_6 p0_7 p0_8 p0_9 p0_10 p0_11] := hP9.lendN _ hT14
 refine ⟨(hS13.pick [1] rfl rfl), gv1 9 13 (.bool b11) rfl (hS13.pick [1] rfl rfl) ?_⟩
 rcases b11 with _ | _
 try dsimp only at hF
 refine gz1 10 14 rfl (hS13.pick [1] rfl rfl) (gz1 11 15 rfl (hS13.pick [1] rfl rfl) (gz1 12 16 rfl (hS13.pick [1] rfl rfl) (gz1 13 17 rfl (hS13.pick [1] rfl rfl) (gz1 14 18 rfl (hS13.pick [1] rfl rfl) (gz1 15 19 rfl (hS13.pick [1] rfl rfl) (gz1 16 20 rfl (hS13.pick [1] rfl rfl) (gz1 17 21 rfl (hS13.pick [1] rfl rfl) ?_)))))))
 refine gz1 18 22 rfl (hS13.pick [1] rfl rfl) (gz1 19 23 rfl (hS13.pick [1] rfl rfl) (gz1 20 24 rfl (hS13.pick [1] rfl rfl) (gz1 21 25 rfl (hS13.pick [1] rfl rfl) (gz1 22 26 rfl (hS13.pick [1] rfl rfl) (gz1 23 27 rfl (hS13.pick [1] rfl rfl) (gz1 24 28 rfl (hS13.pick [1] rfl rfl) (gz1 25 29 rfl (hS13.pick [1] rfl rfl) ?_)))))))
 refine gz1 26 30 rfl (hS13.pick [1] rfl rfl) (gz1 27 31 rfl (hS13.pick [1] rfl rfl) (gz1 28 32 rfl (hS13.pick [1] rfl rfl) (gv1 29 33 (.bool false) rfl (hS13.pick [1] rfl rfl) (gv1 30 2 (.int .u8 0) rfl (hS13.pick [1] rfl rfl) (gv1 31 3 (.bool false) rfl (hS13.pick [1] rfl rfl) (gd_done (by kernel_rfl) (gx_thenN ?_)))))))
 refine hK4 _ _ (gx_ret ?_)
 obtain rfl := sj hF
 exact gxF (.tuple #[.int .u8 0, .bool false]) ⟨_, rfl, rfl, (hS13.pick [1] rfl rfl)⟩
 try dsimp only at hF
 refine gv1 10 14 (vP g0) rfl (hS13.pick [1] rfl rfl) (gv1 11 15 (vP g0) rfl (hS13.pick [1] rfl rfl) (gv1 12 16 (vP g0) rfl (hS13.pick [1] rfl rfl) (gv1 13 17 (vP g0) rfl (hS13.pick [1] rfl rfl) (gv1 14 18 (vP g0) rfl (hS13.pick [1] rfl rfl) (gv1 15 19 (vQ g0 4) rfl (hS13.pick [1] rfl rfl) (gu1 16 20 (i6 p0_4) rfl (hS13.pick [1] rfl rfl) (fun w hSw => rl1 (hSw.box 0 rfl 4 rfl)) ?_))))))
 have hP15 : St _ _ w12 ([plE g0 zA zc A0_1 c0_1 zb zg zl zn p0_4 p0_5 p0_6 p0_7 p0_8 p0_9 p0_10 p0_11] ++ [rowE .u8 5 (some ⟨w5.heap.size, 0, none⟩) 1 ([22])]) := hS13.pick [1, 0] rfl rfl
 obtain ⟨b17, hc16, hF⟩ := bind_in hF
 try dsimp only at hF
 refine gdC 17 ⟨some 21, _, _, _, _, _⟩ _ rfl (by kernel_rfl) (pWide_ok N zb zg zl zn p0_4 p0_5 p0_6 p0_7 p0_8 p0_9 p0_10 p0_11 p0_4 g0 zA zc A0_1 c0_1 _ hc16 w12 (hP15.vwA hv0_0) (hP15.vwA hv0_1) hP15.part) ?_
 rintro _ w18 ⟨rfl, hT20⟩
 have hS19 : St _ _ w18 [rowE .u8 5 (some ⟨w5.heap.size, 0, none⟩) 1 ([22]), plE g0 zA zc A0_1 c0_1 zb zg zl zn p0_4 p0_5 p0_6 p0_7 p0_8 p0_9 p0_10 p0_11] := hP15.lendN _ hT20
 refine ⟨(hS19.pick [1] rfl rfl), gv1 18 22 (.bool b17) rfl (hS19.pick [1] rfl rfl) ?_⟩
 rcases b17 with _ | _
 try dsimp only at hF
 refine gz1 19 23 rfl (hS19.pick [1] rfl rfl) (gz1 20 24 rfl (hS19.pick [1] rfl rfl) (gz1 21 25 rfl (hS19.pick [1] rfl rfl) (gz1 22 26 rfl (hS19.pick [1] rfl rfl) (gz1 23 27 rfl (hS19.pick [1] rfl rfl) (gz1 24 28 rfl (hS19.pick [1] rfl rfl) (gz1 25 29 rfl (hS19.pick [1] rfl rfl) (gz1 26 30 rfl (hS19.pick [1] rfl rfl) ?_)))))))
 refine gv1 27 31 (.bool false) rfl (hS19.pick [1] rfl rfl) (gv1 28 32 (.bool true) rfl (hS19.pick [1] rfl rfl) (gv1 29 33 (.bool true) rfl (hS19.pick [1] rfl rfl) (gv1 30 2 (.int .u8 0) rfl (hS19.pick [1] rfl rfl) (gv1 31 3 (.bool true) rfl (hS19.pick [1] rfl rfl) (gd_done (by kernel_rfl) (gx_thenN (hK4 _ _ ?_)))))))
 refine gx_ret ?_
 obtain rfl := sj hF
 exact gxF (.tuple #[.int .u8 0, .bool true]) ⟨_, rfl, rfl, (hS19.pick [1] rfl rfl)⟩
 try dsimp only at hF
 refine gv1 19 23 (vP g0) rfl (hS19.pick [1] rfl rfl) (gv1 20 24 (vP g0) rfl (hS19.pick [1] rfl rfl) (gv1 21 25 (vP g0) rfl (hS19.pick [1] rfl rfl) (gv1 22 26 (vP g0) rfl (hS19.pick [1] rfl rfl) (gv1 23 27 (vP g0) rfl (hS19.pick [1] rfl rfl) (gv1 24 28 (vQ g0 2) rfl (hS19.pick [1] rfl rfl) (gu1 25 29 (i6 zl) rfl (hS19.pick [1] rfl rfl) (fun w hSw => rl1 (hSw.box 0 rfl 2 rfl)) ?_))))))
 have hP21 : St _ _ w18 ([plE g0 zA zc A0_1 c0_1 zb zg zl zn p0_4 p0_5 p0_6 p0_7 p0_8 p0_9 p0_10 p0_11] ++ [rowE .u8 5 (some ⟨w5.heap.size, 0, none⟩) 1 ([22])]) := hS19.pick [1, 0] rfl rfl
 obtain ⟨b23, hc22, hF⟩ := bind_in hF
 try dsimp only at hF
 refine gdC 26 ⟨some 30, _, _, _, _, _⟩ _ rfl (by kernel_rfl) (pWide_ok N zb zg zl zn p0_4 p0_5 p0_6 p0_7 p0_8 p0_9 p0_10 p0_11 zl g0 zA zc A0_1 c0_1 _ hc22 w18 (hP21.vwA hv0_0) (hP21.vwA hv0_1) hP21.part) ?_
 rintro _ w24 ⟨rfl, hT26⟩
 have hS25 : St _ _ w24 [rowE .u8 5 (some ⟨w5.heap.size, 0, none⟩) 1 ([22]), plE g0 zA zc A0_1 c0_1 zb zg zl zn p0_4 p0_5 p0_6 p0_7 p0_8 p0_9 p0_10 p0_11] := hP21.lendN _ hT26
 refine ⟨(hS25.pick [1] rfl rfl), gv1 27 31 (.bool b23) rfl (hS25.pick [1] rfl rfl) (gv1 28 32 (.bool (!b23)) rfl (hS25.pick [1] rfl rfl) (gv1 29 33 (.bool (!b23)) rfl (hS25.pick [1] rfl rfl) (gv1 30 2 (.int .u8 0) rfl (hS25.pick [1] rfl rfl) (gv1 31 3 (.bool (!b23)) rfl (hS25.pick [1] rfl rfl) (gd_done (by kernel_rfl) (gx_thenN ?_))))))⟩
 refine hK4 _ _ (gx_ret ?_)
 obtain rfl := sj hF
 exact gxF (.tuple #[.int .u8 0, .bool (!b23)]) ⟨_, rfl, rfl, (hS25.pick [1] rfl rfl)⟩
end Go.Proofs.YtdbimchiecdkoaaGreat
