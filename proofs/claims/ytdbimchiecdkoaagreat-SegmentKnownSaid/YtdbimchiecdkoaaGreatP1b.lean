/-
  The rules, walked.
-/
import Derived.Test.YtdbimchiecdkoaaGreatPJ
namespace Go.Proofs.YtdbimchiecdkoaaGreat
open Go Go.RowKit
set_option maxRecDepth 100000
set_option maxHeartbeats 4000000
set_option linter.unusedVariables false
def qAheadOfClosing (N : Nat) (zb : List Int) (zg : List Int) (zl : Int) (zn : Int) (p0_4 : Int) (p0_5 : Int) (p0_6 : Int) (p0_7 : Int) (p0_8 : Int) (p0_9 : Bool) (p0_10 : Bool) (p0_11 : Bool) : Option (Int × Bool) :=
 ((pIs N zb zg zl zn p0_4 p0_5 p0_6 p0_7 p0_8 p0_9 p0_10 p0_11 p0_4 ([21, 20, 16, 24])).bind fun b11 => some (0, b11))
def qAheadOfClosing_R (zb : List Int) (zg : List Int) (zl : Int) (zn : Int) (p0_4 : Int) (p0_5 : Int) (p0_6 : Int) (p0_7 : Int) (p0_8 : Int) (p0_9 : Bool) (p0_10 : Bool) (p0_11 : Bool) (g0 : Nat) (zA : Option Addr) (zc : Nat) (A0_1 : Option Addr) (c0_1 : Nat) (r : Int × Bool) (w0 : World) (v : Value) (w : World) : Prop := v = .tuple #[.int .u8 r.1, .bool r.2] ∧ St (foots [plE g0 zA zc A0_1 c0_1 zb zg zl zn p0_4 p0_5 p0_6 p0_7 p0_8 p0_9 p0_10 p0_11]) w0 w [plE g0 zA zc A0_1 c0_1 zb zg zl zn p0_4 p0_5 p0_6 p0_7 p0_8 p0_9 p0_10 p0_11]
theorem qAheadOfClosing_ok (N : Nat) (zb : List Int) (zg : List Int) (zl : Int) (zn : Int) (p0_4 : Int) (p0_5 : Int) (p0_6 : Int) (p0_7 : Int) (p0_8 : Int) (p0_9 : Bool) (p0_10 : Bool) (p0_11 : Bool) (g0 : Nat) (zA : Option Addr) (zc : Nat) (A0_1 : Option Addr) (c0_1 : Nat) (r : Int × Bool) (hF : qAheadOfClosing N zb zg zl zn p0_4 p0_5 p0_6 p0_7 p0_8 p0_9 p0_10 p0_11 = some r) (w0 : World) (hv0_0 : Vw (foots [plE g0 zA zc A0_1 c0_1 zb zg zl zn p0_4 p0_5 p0_6 p0_7 p0_8 p0_9 p0_10 p0_11]) .i32 w0 zA zc zb) (hv0_1 : Vw (foots [plE g0 zA zc A0_1 c0_1 zb zg zl zn p0_4 p0_5 p0_6 p0_7 p0_8 p0_9 p0_10 p0_11]) .u8 w0 A0_1 c0_1 zg) (hl : St (foots [plE g0 zA zc A0_1 c0_1 zb zg zl zn p0_4 p0_5 p0_6 p0_7 p0_8 p0_9 p0_10 p0_11]) w0 w0 [plE g0 zA zc A0_1 c0_1 zb zg zl zn p0_4 p0_5 p0_6 p0_7 p0_8 p0_9 p0_10 p0_11]) :
  Calls Tryz.prog 31 #[.pointer (some ⟨g0, 0, none⟩)] w0 fun e w => ∃ v, e = .returned v ∧ qAheadOfClosing_R zb zg zl zn p0_4 p0_5 p0_6 p0_7 p0_8 p0_9 p0_10 p0_11 g0 zA zc A0_1 c0_1 r w0 v w := by
 have hS0 := hl
 unfold qAheadOfClosing at hF
 refine calls_of Tryz.func31 rfl ⟨((vP g0) :: un 12 ([])).toArray, []⟩ (by kernel_rfl) (gx_seq (fun K1 hK2 => gx_region (gx_k (.int .u8 0) w0 (gx_k (.bool false) w0 (gx_nil (gx_thenN (hK2 _ _ (gx_seq (fun K3 hK4 => ?_)))))))))
 refine gdst (fun w => St (foots [plE g0 zA zc A0_1 c0_1 zb zg zl zn p0_4 p0_5 p0_6 p0_7 p0_8 p0_9 p0_10 p0_11]) w0 w [plE g0 zA zc A0_1 c0_1 zb zg zl zn p0_4 p0_5 p0_6 p0_7 p0_8 p0_9 p0_10 p0_11]) 11 ?_
 have hS6 := hS0.drew
 generalize w0.drew = w5 at hS6 ⊢
 refine gv1 0 4 (vP g0) rfl hS6 (gv1 1 5 (vP g0) rfl hS6 (gv1 2 6 (vP g0) rfl hS6 (gv1 3 7 (vP g0) rfl hS6 (gv1 4 8 (vP g0) rfl hS6 (gv1 5 9 (vQ g0 4) rfl hS6 (gu1 6 10 (i6 p0_4) rfl hS6 (fun w hSw => rl1 (hSw.box 0 rfl 4 rfl)) (gdR 7 ⟨some 11, _, _, _, _, _⟩ rfl (st_made .u8 5 [21, 20, 16, 24] hS6 (by show 4 ≤ 1000000000; decide) (by kernel_rfl)) ?_)))))))
 rintro _ w7 ⟨rfl, hS8⟩
 have hS8 : St _ _ w7 [plE g0 zA zc A0_1 c0_1 zb zg zl zn p0_4 p0_5 p0_6 p0_7 p0_8 p0_9 p0_10 p0_11, rowE .u8 5 (some ⟨w5.heap.size, 0, none⟩) 4 ([21, 20, 16, 24])] := hS8
 refine ⟨(hS8.pick [0] rfl rfl), ?_⟩
 have hP9 : St _ _ w7 ([plE g0 zA zc A0_1 c0_1 zb zg zl zn p0_4 p0_5 p0_6 p0_7 p0_8 p0_9 p0_10 p0_11] ++ [rowE .u8 5 (some ⟨w5.heap.size, 0, none⟩) 4 ([21, 20, 16, 24])]) := hS8
 obtain ⟨b11, hc10, hF⟩ := bind_in hF
 try dsimp only at hF
 refine gdC 8 ⟨some 12, _, _, _, _, _⟩ _ rfl (by kernel_rfl) (pIs_ok N zb zg zl zn p0_4 p0_5 p0_6 p0_7 p0_8 p0_9 p0_10 p0_11 p0_4 ([21, 20, 16, 24]) g0 zA zc A0_1 c0_1 (some ⟨w5.heap.size, 0, none⟩) 4 _ hc10 w7 (hP9.vwA hv0_0) (hP9.vwA hv0_1) (hP9.vwB 0 rfl) hP9.part) ?_
 rintro _ w12 ⟨rfl, hT14⟩
 have hS13 : St _ _ w12 [rowE .u8 5 (some ⟨w5.heap.size, 0, none⟩) 4 ([21, 20, 16, 24]), plE g0 zA zc A0_1 c0_1 zb zg zl zn p0_4 p0_5 p0_6 p0_7 p0_8 p0_9 p0_10 p0_11] := hP9.lendN _ hT14
 refine ⟨(hS13.pick [1] rfl rfl), gv1 9 2 (.int .u8 0) rfl (hS13.pick [1] rfl rfl) (gv1 10 3 (.bool b11) rfl (hS13.pick [1] rfl rfl) (gd_done (by kernel_rfl) (gx_thenN (hK4 _ _ (gx_ret ?_)))))⟩
 obtain rfl := sj hF
 exact gxF (.tuple #[.int .u8 0, .bool b11]) ⟨_, rfl, rfl, (hS13.pick [1] rfl rfl)⟩
def qBehindOpening (N : Nat) (zb : List Int) (zg : List Int) (zl : Int) (zn : Int) (p0_4 : Int) (p0_5 : Int) (p0_6 : Int) (p0_7 : Int) (p0_8 : Int) (p0_9 : Bool) (p0_10 : Bool) (p0_11 : Bool) : Option (Int × Bool) :=
 ((pIs N zb zg zl zn p0_4 p0_5 p0_6 p0_7 p0_8 p0_9 p0_10 p0_11 p0_8 ([19])).bind fun b11 => some (0, b11))
def qBehindOpening_R (zb : List Int) (zg : List Int) (zl : Int) (zn : Int) (p0_4 : Int) (p0_5 : Int) (p0_6 : Int) (p0_7 : Int) (p0_8 : Int) (p0_9 : Bool) (p0_10 : Bool) (p0_11 : Bool) (g0 : Nat) (zA : Option Addr) (zc : Nat) (A0_1 : Option Addr) (c0_1 : Nat) (r : Int × Bool) (w0 : World) (v : Value) (w : World) : Prop := v = .tuple #[.int .u8 r.1, .bool r.2] ∧ St (foots [plE g0 zA zc A0_1 c0_1 zb zg zl zn p0_4 p0_5 p0_6 p0_7 p0_8 p0_9 p0_10 p0_11]) w0 w [plE g0 zA zc A0_1 c0_1 zb zg zl zn p0_4 p0_5 p0_6 p0_7 p0_8 p0_9 p0_10 p0_11]
theorem qBehindOpening_ok (N : Nat) (zb : List Int) (zg : List Int) (zl : Int) (zn : Int) (p0_4 : Int) (p0_5 : Int) (p0_6 : Int) (p0_7 : Int) (p0_8 : Int) (p0_9 : Bool) (p0_10 : Bool) (p0_11 : Bool) (g0 : Nat) (zA : Option Addr) (zc : Nat) (A0_1 : Option Addr) (c0_1 : Nat) (r : Int × Bool) (hF : qBehindOpening N zb zg zl zn p0_4 p0_5 p0_6 p0_7 p0_8 p0_9 p0_10 p0_11 = some r) (w0 : World) (hv0_0 : Vw (foots [plE g0 zA zc A0_1 c0_1 zb zg zl zn p0_4 p0_5 p0_6 p0_7 p0_8 p0_9 p0_10 p0_11]) .i32 w0 zA zc zb) (hv0_1 : Vw (foots [plE g0 zA zc A0_1 c0_1 zb zg zl zn p0_4 p0_5 p0_6 p0_7 p0_8 p0_9 p0_10 p0_11]) .u8 w0 A0_1 c0_1 zg) (hl : St (foots [plE g0 zA zc A0_1 c0_1 zb zg zl zn p0_4 p0_5 p0_6 p0_7 p0_8 p0_9 p0_10 p0_11]) w0 w0 [plE g0 zA zc A0_1 c0_1 zb zg zl zn p0_4 p0_5 p0_6 p0_7 p0_8 p0_9 p0_10 p0_11]) :
  Calls Tryz.prog 32 #[.pointer (some ⟨g0, 0, none⟩)] w0 fun e w => ∃ v, e = .returned v ∧ qBehindOpening_R zb zg zl zn p0_4 p0_5 p0_6 p0_7 p0_8 p0_9 p0_10 p0_11 g0 zA zc A0_1 c0_1 r w0 v w := by
 have hS0 := hl
 unfold qBehindOpening at hF
 refine calls_of Tryz.func32 rfl ⟨((vP g0) :: un 12 ([])).toArray, []⟩ (by kernel_rfl) (gx_seq (fun K1 hK2 => gx_region (gx_k (.int .u8 0) w0 (gx_k (.bool false) w0 (gx_nil (gx_thenN (hK2 _ _ (gx_seq (fun K3 hK4 => ?_)))))))))
 refine gdst (fun w => St (foots [plE g0 zA zc A0_1 c0_1 zb zg zl zn p0_4 p0_5 p0_6 p0_7 p0_8 p0_9 p0_10 p0_11]) w0 w [plE g0 zA zc A0_1 c0_1 zb zg zl zn p0_4 p0_5 p0_6 p0_7 p0_8 p0_9 p0_10 p0_11]) 11 ?_
 have hS6 := hS0.drew
 generalize w0.drew = w5 at hS6 ⊢
 refine gv1 0 4 (vP g0) rfl hS6 (gv1 1 5 (vP g0) rfl hS6 (gv1 2 6 (vP g0) rfl hS6 (gv1 3 7 (vP g0) rfl hS6 (gv1 4 8 (vP g0) rfl hS6 (gv1 5 9 (vQ g0 8) rfl hS6 (gu1 6 10 (i6 p0_8) rfl hS6 (fun w hSw => rl1 (hSw.box 0 rfl 8 rfl)) (gdR 7 ⟨some 11, _, _, _, _, _⟩ rfl (st_made .u8 5 [19] hS6 (by show 1 ≤ 1000000000; decide) (by kernel_rfl)) ?_)))))))
 rintro _ w7 ⟨rfl, hS8⟩
 have hS8 : St _ _ w7 [plE g0 zA zc A0_1 c0_1 zb zg zl zn p0_4 p0_5 p0_6 p0_7 p0_8 p0_9 p0_10 p0_11, rowE .u8 5 (some ⟨w5.heap.size, 0, none⟩) 1 ([19])] := hS8
 refine ⟨(hS8.pick [0] rfl rfl), ?_⟩
 have hP9 : St _ _ w7 ([plE g0 zA zc A0_1 c0_1 zb zg zl zn p0_4 p0_5 p0_6 p0_7 p0_8 p0_9 p0_10 p0_11] ++ [rowE .u8 5 (some ⟨w5.heap.size, 0, none⟩) 1 ([19])]) := hS8
 obtain ⟨b11, hc10, hF⟩ := bind_in hF
 try dsimp only at hF
 refine gdC 8 ⟨some 12, _, _, _, _, _⟩ _ rfl (by kernel_rfl) (pIs_ok N zb zg zl zn p0_4 p0_5 p0_6 p0_7 p0_8 p0_9 p0_10 p0_11 p0_8 ([19]) g0 zA zc A0_1 c0_1 (some ⟨w5.heap.size, 0, none⟩) 1 _ hc10 w7 (hP9.vwA hv0_0) (hP9.vwA hv0_1) (hP9.vwB 0 rfl) hP9.part) ?_
 rintro _ w12 ⟨rfl, hT14⟩
 have hS13 : St _ _ w12 [rowE .u8 5 (some ⟨w5.heap.size, 0, none⟩) 1 ([19]), plE g0 zA zc A0_1 c0_1 zb zg zl zn p0_4 p0_5 p0_6 p0_7 p0_8 p0_9 p0_10 p0_11] := hP9.lendN _ hT14
 refine ⟨(hS13.pick [1] rfl rfl), gv1 9 2 (.int .u8 0) rfl (hS13.pick [1] rfl rfl) (gv1 10 3 (.bool b11) rfl (hS13.pick [1] rfl rfl) (gd_done (by kernel_rfl) (gx_thenN (hK4 _ _ (gx_ret ?_)))))⟩
 obtain rfl := sj hF
 exact gxF (.tuple #[.int .u8 0, .bool b11]) ⟨_, rfl, rfl, (hS13.pick [1] rfl rfl)⟩
def qBehindOpeningQuote (N : Nat) (zb : List Int) (zg : List Int) (zl : Int) (zn : Int) (p0_4 : Int) (p0_5 : Int) (p0_6 : Int) (p0_7 : Int) (p0_8 : Int) (p0_9 : Bool) (p0_10 : Bool) (p0_11 : Bool) : Option (Int × Bool) :=
 ((pOpens N zb zg zl zn p0_4 p0_5 p0_6 p0_7 p0_8 p0_9 p0_10 p0_11 p0_8).bind fun b9 => (match b9 with | true => ((pEdge N zb zg zl zn p0_4 p0_5 p0_6 p0_7 p0_8 p0_9 p0_10 p0_11 p0_7).bind fun b15 => (match b15 with | true => some (0, true) | false => ((pIs N zb zg zl zn p0_4 p0_5 p0_6 p0_7 p0_8 p0_9 p0_10 p0_11 p0_7 ([19, 22])).bind fun b23 => some (0, b23)))) | false => some (0, false)))
def qBehindOpeningQuote_R (zb : List Int) (zg : List Int) (zl : Int) (zn : Int) (p0_4 : Int) (p0_5 : Int) (p0_6 : Int) (p0_7 : Int) (p0_8 : Int) (p0_9 : Bool) (p0_10 : Bool) (p0_11 : Bool) (g0 : Nat) (zA : Option Addr) (zc : Nat) (A0_1 : Option Addr) (c0_1 : Nat) (r : Int × Bool) (w0 : World) (v : Value) (w : World) : Prop := v = .tuple #[.int .u8 r.1, .bool r.2] ∧ St (foots [plE g0 zA zc A0_1 c0_1 zb zg zl zn p0_4 p0_5 p0_6 p0_7 p0_8 p0_9 p0_10 p0_11]) w0 w [plE g0 zA zc A0_1 c0_1 zb zg zl zn p0_4 p0_5 p0_6 p0_7 p0_8 p0_9 p0_10 p0_11]
theorem qBehindOpeningQuote_ok (N : Nat) (zb : List Int) (zg : List Int) (zl : Int) (zn : Int) (p0_4 : Int) (p0_5 : Int) (p0_6 : Int) (p0_7 : Int) (p0_8 : Int) (p0_9 : Bool) (p0_10 : Bool) (p0_11 : Bool) (g0 : Nat) (zA : Option Addr) (zc : Nat) (A0_1 : Option Addr) (c0_1 : Nat) (r : Int × Bool) (hF : qBehindOpeningQuote N zb zg zl zn p0_4 p0_5 p0_6 p0_7 p0_8 p0_9 p0_10 p0_11 = some r) (w0 : World) (hv0_0 : Vw (foots [plE g0 zA zc A0_1 c0_1 zb zg zl zn p0_4 p0_5 p0_6 p0_7 p0_8 p0_9 p0_10 p0_11]) .i32 w0 zA zc zb) (hv0_1 : Vw (foots [plE g0 zA zc A0_1 c0_1 zb zg zl zn p0_4 p0_5 p0_6 p0_7 p0_8 p0_9 p0_10 p0_11]) .u8 w0 A0_1 c0_1 zg) (hl : St (foots [plE g0 zA zc A0_1 c0_1 zb zg zl zn p0_4 p0_5 p0_6 p0_7 p0_8 p0_9 p0_10 p0_11]) w0 w0 [plE g0 zA zc A0_1 c0_1 zb zg zl zn p0_4 p0_5 p0_6 p0_7 p0_8 p0_9 p0_10 p0_11]) :
  Calls Tryz.prog 33 #[.pointer (some ⟨g0, 0, none⟩)] w0 fun e w => ∃ v, e = .returned v ∧ qBehindOpeningQuote_R zb zg zl zn p0_4 p0_5 p0_6 p0_7 p0_8 p0_9 p0_10 p0_11 g0 zA zc A0_1 c0_1 r w0 v w := by
 have hS0 := hl
 unfold qBehindOpeningQuote at hF
 refine calls_of Tryz.func33 rfl ⟨((vP g0) :: un 32 ([])).toArray, []⟩ (by kernel_rfl) (gx_seq (fun K1 hK2 => gx_region (gx_k (.int .u8 0) w0 (gx_k (.bool false) w0 (gx_nil (gx_thenN (hK2 _ _ (gx_seq (fun K3 hK4 => ?_)))))))))
 refine gdst (fun w => St (foots [plE g0 zA zc A0_1 c0_1 zb zg zl zn p0_4 p0_5 p0_6 p0_7 p0_8 p0_9 p0_10 p0_11]) w0 w [plE g0 zA zc A0_1 c0_1 zb zg zl zn p0_4 p0_5 p0_6 p0_7 p0_8 p0_9 p0_10 p0_11]) 31 ?_
 have hS6 := hS0.drew
 generalize w0.drew = w5 at hS6 ⊢
 refine gv1 0 4 (vP g0) rfl hS6 (gv1 1 5 (vP g0) rfl hS6 (gv1 2 6 (vP g0) rfl hS6 (gv1 3 7 (vP g0) rfl hS6 (gv1 4 8 (vP g0) rfl hS6 (gv1 5 9 (vQ g0 8) rfl hS6 (gu1 6 10 (i6 p0_8) rfl hS6 (fun w hSw => rl1 (hSw.box 0 rfl 8 rfl)) ?_))))))
 have hP7 : St _ _ w5 ([plE g0 zA zc A0_1 c0_1 zb zg zl zn p0_4 p0_5 p0_6 p0_7 p0_8 p0_9 p0_10 p0_11] ++ []) := hS6
 obtain ⟨b9, hc8, hF⟩ := bind_in hF
 try dsimp only at hF
 refine gdC 7 ⟨some 11, _, _, _, _, _⟩ _ rfl (by kernel_rfl) (pOpens_ok N zb zg zl zn p0_4 p0_5 p0_6 p0_7 p0_8 p0_9 p0_10 p0_11 p0_8 g0 zA zc A0_1 c0_1 _ hc8 w5 (hP7.vwA hv0_0) (hP7.vwA hv0_1) hP7.part) ?_
 rintro _ w10 ⟨rfl, hT12⟩
 have hS11 : St _ _ w10 [plE g0 zA zc A0_1 c0_1 zb zg zl zn p0_4 p0_5 p0_6 p0_7 p0_8 p0_9 p0_10 p0_11] := hP7.lendN _ hT12
 refine ⟨hS11, gv1 8 12 (.bool b9) rfl hS11 ?_⟩
 rcases b9 with _ | _
 try dsimp only at hF
 refine gz1 9 13 rfl hS11 (gz1 10 14 rfl hS11 (gz1 11 15 rfl hS11 (gz1 12 16 rfl hS11 (gz1 13 17 rfl hS11 (gz1 14 18 rfl hS11 (gz1 15 19 rfl hS11 (gz1 16 20 rfl hS11 ?_)))))))
 refine gz1 17 21 rfl hS11 (gz1 18 22 rfl hS11 (gz1 19 23 rfl hS11 (gz1 20 24 rfl hS11 (gz1 21 25 rfl hS11 (gz1 22 26 rfl hS11 (gz1 23 27 rfl hS11 (gz1 24 28 rfl hS11 ?_)))))))
 refine gz1 25 29 rfl hS11 (gz1 26 30 rfl hS11 (gz1 27 31 rfl hS11 (gv1 28 32 (.bool false) rfl hS11 (gv1 29 2 (.int .u8 0) rfl hS11 (gv1 30 3 (.bool false) rfl hS11 (gd_done (by kernel_rfl) (gx_thenN ?_)))))))
 refine hK4 _ _ (gx_ret ?_)
 obtain rfl := sj hF
 exact gxF (.tuple #[.int .u8 0, .bool false]) ⟨_, rfl, rfl, hS11⟩
 try dsimp only at hF
 refine gv1 9 13 (vP g0) rfl hS11 (gv1 10 14 (vP g0) rfl hS11 (gv1 11 15 (vP g0) rfl hS11 (gv1 12 16 (vP g0) rfl hS11 (gv1 13 17 (vP g0) rfl hS11 (gv1 14 18 (vQ g0 7) rfl hS11 (gu1 15 19 (i6 p0_7) rfl hS11 (fun w hSw => rl1 (hSw.box 0 rfl 7 rfl)) ?_))))))
 have hP13 : St _ _ w10 ([plE g0 zA zc A0_1 c0_1 zb zg zl zn p0_4 p0_5 p0_6 p0_7 p0_8 p0_9 p0_10 p0_11] ++ []) := hS11
 obtain ⟨b15, hc14, hF⟩ := bind_in hF
 try dsimp only at hF
 refine gdC 16 ⟨some 20, _, _, _, _, _⟩ _ rfl (by kernel_rfl) (pEdge_ok N zb zg zl zn p0_4 p0_5 p0_6 p0_7 p0_8 p0_9 p0_10 p0_11 p0_7 g0 zA zc A0_1 c0_1 _ hc14 w10 (hP13.vwA hv0_0) (hP13.vwA hv0_1) hP13.part) ?_
 rintro _ w16 ⟨rfl, hT18⟩
 have hS17 : St _ _ w16 [plE g0 zA zc A0_1 c0_1 zb zg zl zn p0_4 p0_5 p0_6 p0_7 p0_8 p0_9 p0_10 p0_11] := hP13.lendN _ hT18
 refine ⟨hS17, gv1 17 21 (.bool b15) rfl hS17 ?_⟩
 rcases b15 with _ | _
 try dsimp only at hF
 refine gv1 18 22 (vP g0) rfl hS17 (gv1 19 23 (vP g0) rfl hS17 (gv1 20 24 (vP g0) rfl hS17 (gv1 21 25 (vP g0) rfl hS17 (gv1 22 26 (vP g0) rfl hS17 (gv1 23 27 (vQ g0 7) rfl hS17 (gu1 24 28 (i6 p0_7) rfl hS17 (fun w hSw => rl1 (hSw.box 0 rfl 7 rfl)) (gdR 25 ⟨some 29, _, _, _, _, _⟩ rfl (st_made .u8 5 [19, 22] hS17 (by show 2 ≤ 1000000000; decide) (by kernel_rfl)) ?_)))))))
 rintro _ w19 ⟨rfl, hS20⟩
 have hS20 : St _ _ w19 [plE g0 zA zc A0_1 c0_1 zb zg zl zn p0_4 p0_5 p0_6 p0_7 p0_8 p0_9 p0_10 p0_11, rowE .u8 5 (some ⟨w16.heap.size, 0, none⟩) 2 ([19, 22])] := hS20
 refine ⟨(hS20.pick [0] rfl rfl), ?_⟩
 have hP21 : St _ _ w19 ([plE g0 zA zc A0_1 c0_1 zb zg zl zn p0_4 p0_5 p0_6 p0_7 p0_8 p0_9 p0_10 p0_11] ++ [rowE .u8 5 (some ⟨w16.heap.size, 0, none⟩) 2 ([19, 22])]) := hS20
 obtain ⟨b23, hc22, hF⟩ := bind_in hF
 try dsimp only at hF
 refine gdC 26 ⟨some 30, _, _, _, _, _⟩ _ rfl (by kernel_rfl) (pIs_ok N zb zg zl zn p0_4 p0_5 p0_6 p0_7 p0_8 p0_9 p0_10 p0_11 p0_7 ([19, 22]) g0 zA zc A0_1 c0_1 (some ⟨w16.heap.size, 0, none⟩) 2 _ hc22 w19 (hP21.vwA hv0_0) (hP21.vwA hv0_1) (hP21.vwB 0 rfl) hP21.part) ?_
 rintro _ w24 ⟨rfl, hT26⟩
 have hS25 : St _ _ w24 [rowE .u8 5 (some ⟨w16.heap.size, 0, none⟩) 2 ([19, 22]), plE g0 zA zc A0_1 c0_1 zb zg zl zn p0_4 p0_5 p0_6 p0_7 p0_8 p0_9 p0_10 p0_11] := hP21.lendN _ hT26
 refine ⟨(hS25.pick [1] rfl rfl), gv1 27 31 (.bool b23) rfl (hS25.pick [1] rfl rfl) (gv1 28 32 (.bool b23) rfl (hS25.pick [1] rfl rfl) (gv1 29 2 (.int .u8 0) rfl (hS25.pick [1] rfl rfl) (gv1 30 3 (.bool b23) rfl (hS25.pick [1] rfl rfl) (gd_done (by kernel_rfl) (gx_thenN (hK4 _ _ ?_))))))⟩
 refine gx_ret ?_
 obtain rfl := sj hF
 exact gxF (.tuple #[.int .u8 0, .bool b23]) ⟨_, rfl, rfl, (hS25.pick [1] rfl rfl)⟩
 try dsimp only at hF
 refine gz1 18 22 rfl hS17 (gz1 19 23 rfl hS17 (gz1 20 24 rfl hS17 (gz1 21 25 rfl hS17 (gz1 22 26 rfl hS17 (gz1 23 27 rfl hS17 (gz1 24 28 rfl hS17 (gz1 25 29 rfl hS17 ?_)))))))
 refine gz1 26 30 rfl hS17 (gv1 27 31 (.bool true) rfl hS17 (gv1 28 32 (.bool true) rfl hS17 (gv1 29 2 (.int .u8 0) rfl hS17 (gv1 30 3 (.bool true) rfl hS17 (gd_done (by kernel_rfl) (gx_thenN (hK4 _ _ ?_)))))))
 refine gx_ret ?_
 obtain rfl := sj hF
 exact gxF (.tuple #[.int .u8 0, .bool true]) ⟨_, rfl, rfl, hS17⟩
def qAheadOfClosingQuote (N : Nat) (zb : List Int) (zg : List Int) (zl : Int) (zn : Int) (p0_4 : Int) (p0_5 : Int) (p0_6 : Int) (p0_7 : Int) (p0_8 : Int) (p0_9 : Bool) (p0_10 : Bool) (p0_11 : Bool) : Option (Int × Bool) :=
 ((pCloses N zb zg zl zn p0_4 p0_5 p0_6 p0_7 p0_8 p0_9 p0_10 p0_11 p0_4).bind fun b9 => (match b9 with | true => ((pEdge N zb zg zl zn p0_4 p0_5 p0_6 p0_7 p0_8 p0_9 p0_10 p0_11 p0_5).bind fun b15 => (match b15 with | true => some (0, true) | false => ((pIs N zb zg zl zn p0_4 p0_5 p0_6 p0_7 p0_8 p0_9 p0_10 p0_11 p0_5 ([7, 21, 22, 20, 16, 23, 24])).bind fun b23 => some (0, b23)))) | false => some (0, false)))
def qAheadOfClosingQuote_R (zb : List Int) (zg : List Int) (zl : Int) (zn : Int) (p0_4 : Int) (p0_5 : Int) (p0_6 : Int) (p0_7 : Int) (p0_8 : Int) (p0_9 : Bool) (p0_10 : Bool) (p0_11 : Bool) (g0 : Nat) (zA : Option Addr) (zc : Nat) (A0_1 : Option Addr) (c0_1 : Nat) (r : Int × Bool) (w0 : World) (v : Value) (w : World) : Prop := v = .tuple #[.int .u8 r.1, .bool r.2] ∧ St (foots [plE g0 zA zc A0_1 c0_1 zb zg zl zn p0_4 p0_5 p0_6 p0_7 p0_8 p0_9 p0_10 p0_11]) w0 w [plE g0 zA zc A0_1 c0_1 zb zg zl zn p0_4 p0_5 p0_6 p0_7 p0_8 p0_9 p0_10 p0_11]
theorem qAheadOfClosingQuote_ok (N : Nat) (zb : List Int) (zg : List Int) (zl : Int) (zn : Int) (p0_4 : Int) (p0_5 : Int) (p0_6 : Int) (p0_7 : Int) (p0_8 : Int) (p0_9 : Bool) (p0_10 : Bool) (p0_11 : Bool) (g0 : Nat) (zA : Option Addr) (zc : Nat) (A0_1 : Option Addr) (c0_1 : Nat) (r : Int × Bool) (hF : qAheadOfClosingQuote N zb zg zl zn p0_4 p0_5 p0_6 p0_7 p0_8 p0_9 p0_10 p0_11 = some r) (w0 : World) (hv0_0 : Vw (foots [plE g0 zA zc A0_1 c0_1 zb zg zl zn p0_4 p0_5 p0_6 p0_7 p0_8 p0_9 p0_10 p0_11]) .i32 w0 zA zc zb) (hv0_1 : Vw (foots [plE g0 zA zc A0_1 c0_1 zb zg zl zn p0_4 p0_5 p0_6 p0_7 p0_8 p0_9 p0_10 p0_11]) .u8 w0 A0_1 c0_1 zg) (hl : St (foots [plE g0 zA zc A0_1 c0_1 zb zg zl zn p0_4 p0_5 p0_6 p0_7 p0_8 p0_9 p0_10 p0_11]) w0 w0 [plE g0 zA zc A0_1 c0_1 zb zg zl zn p0_4 p0_5 p0_6 p0_7 p0_8 p0_9 p0_10 p0_11]) :
  Calls Tryz.prog 34 #[.pointer (some ⟨g0, 0, none⟩)] w0 fun e w => ∃ v, e = .returned v ∧ qAheadOfClosingQuote_R zb zg zl zn p0_4 p0_5 p0_6 p0_7 p0_8 p0_9 p0_10 p0_11 g0 zA zc A0_1 c0_1 r w0 v w := by
 have hS0 := hl
 unfold qAheadOfClosingQuote at hF
 refine calls_of Tryz.func34 rfl ⟨((vP g0) :: un 32 ([])).toArray, []⟩ (by kernel_rfl) (gx_seq (fun K1 hK2 => gx_region (gx_k (.int .u8 0) w0 (gx_k (.bool false) w0 (gx_nil (gx_thenN (hK2 _ _ (gx_seq (fun K3 hK4 => ?_)))))))))
 refine gdst (fun w => St (foots [plE g0 zA zc A0_1 c0_1 zb zg zl zn p0_4 p0_5 p0_6 p0_7 p0_8 p0_9 p0_10 p0_11]) w0 w [plE g0 zA zc A0_1 c0_1 zb zg zl zn p0_4 p0_5 p0_6 p0_7 p0_8 p0_9 p0_10 p0_11]) 31 ?_
 have hS6 := hS0.drew
 generalize w0.drew = w5 at hS6 ⊢
 refine gv1 0 4 (vP g0) rfl hS6 (gv1 1 5 (vP g0) rfl hS6 (gv1 2 6 (vP g0) rfl hS6 (gv1 3 7 (vP g0) rfl hS6 (gv1 4 8 (vP g0) rfl hS6 (gv1 5 9 (vQ g0 4) rfl hS6 (gu1 6 10 (i6 p0_4) rfl hS6 (fun w hSw => rl1 (hSw.box 0 rfl 4 rfl)) ?_))))))
 have hP7 : St _ _ w5 ([plE g0 zA zc A0_1 c0_1 zb zg zl zn p0_4 p0_5 p0_6 p0_7 p0_8 p0_9 p0_10 p0_11] ++ []) := hS6
 obtain ⟨b9, hc8, hF⟩ := bind_in hF
 try dsimp only at hF
 refine gdC 7 ⟨some 11, _, _, _, _, _⟩ _ rfl (by kernel_rfl) (pCloses_ok N zb zg zl zn p0_4 p0_5 p0_6 p0_7 p0_8 p0_9 p0_10 p0_11 p0_4 g0 zA zc A0_1 c0_1 _ hc8 w5 (hP7.vwA hv0_0) (hP7.vwA hv0_1) hP7.part) ?_
 rintro _ w10 ⟨rfl, hT12⟩
 have hS11 : St _ _ w10 [plE g0 zA zc A0_1 c0_1 zb zg zl zn p0_4 p0_5 p0_6 p0_7 p0_8 p0_9 p0_10 p0_11] := hP7.lendN _ hT12
 refine ⟨hS11, gv1 8 12 (.bool b9) rfl hS11 ?_⟩
 rcases b9 with _ | _
 try dsimp only at hF
 refine gz1 9 13 rfl hS11 (gz1 10 14 rfl hS11 (gz1 11 15 rfl hS11 (gz1 12 16 rfl hS11 (gz1 13 17 rfl hS11 (gz1 14 18 rfl hS11 (gz1 15 19 rfl hS11 (gz1 16 20 rfl hS11 ?_)))))))
 refine gz1 17 21 rfl hS11 (gz1 18 22 rfl hS11 (gz1 19 23 rfl hS11 (gz1 20 24 rfl hS11 (gz1 21 25 rfl hS11 (gz1 22 26 rfl hS11 (gz1 23 27 rfl hS11 (gz1 24 28 rfl hS11 ?_)))))))
 refine gz1 25 29 rfl hS11 (gz1 26 30 rfl hS11 (gz1 27 31 rfl hS11 (gv1 28 32 (.bool false) rfl hS11 (gv1 29 2 (.int .u8 0) rfl hS11 (gv1 30 3 (.bool false) rfl hS11 (gd_done (by kernel_rfl) (gx_thenN ?_)))))))
 refine hK4 _ _ (gx_ret ?_)
 obtain rfl := sj hF
 exact gxF (.tuple #[.int .u8 0, .bool false]) ⟨_, rfl, rfl, hS11⟩
 try dsimp only at hF
 refine gv1 9 13 (vP g0) rfl hS11 (gv1 10 14 (vP g0) rfl hS11 (gv1 11 15 (vP g0) rfl hS11 (gv1 12 16 (vP g0) rfl hS11 (gv1 13 17 (vP g0) rfl hS11 (gv1 14 18 (vQ g0 5) rfl hS11 (gu1 15 19 (i6 p0_5) rfl hS11 (fun w hSw => rl1 (hSw.box 0 rfl 5 rfl)) ?_))))))
 have hP13 : St _ _ w10 ([plE g0 zA zc A0_1 c0_1 zb zg zl zn p0_4 p0_5 p0_6 p0_7 p0_8 p0_9 p0_10 p0_11] ++ []) := hS11
 obtain ⟨b15, hc14, hF⟩ := bind_in hF
 try dsimp only at hF
 refine gdC 16 ⟨some 20, _, _, _, _, _⟩ _ rfl (by kernel_rfl) (pEdge_ok N zb zg zl zn p0_4 p0_5 p0_6 p0_7 p0_8 p0_9 p0_10 p0_11 p0_5 g0 zA zc A0_1 c0_1 _ hc14 w10 (hP13.vwA hv0_0) (hP13.vwA hv0_1) hP13.part) ?_
 rintro _ w16 ⟨rfl, hT18⟩
 have hS17 : St _ _ w16 [plE g0 zA zc A0_1 c0_1 zb zg zl zn p0_4 p0_5 p0_6 p0_7 p0_8 p0_9 p0_10 p0_11] := hP13.lendN _ hT18
 refine ⟨hS17, gv1 17 21 (.bool b15) rfl hS17 ?_⟩
 rcases b15 with _ | _
 try dsimp only at hF
 refine gv1 18 22 (vP g0) rfl hS17 (gv1 19 23 (vP g0) rfl hS17 (gv1 20 24 (vP g0) rfl hS17 (gv1 21 25 (vP g0) rfl hS17 (gv1 22 26 (vP g0) rfl hS17 (gv1 23 27 (vQ g0 5) rfl hS17 (gu1 24 28 (i6 p0_5) rfl hS17 (fun w hSw => rl1 (hSw.box 0 rfl 5 rfl)) (gdR 25 ⟨some 29, _, _, _, _, _⟩ rfl (st_made .u8 5 [7, 21, 22, 20, 16, 23, 24] hS17 (by show 7 ≤ 1000000000; decide) (by kernel_rfl)) ?_)))))))
 rintro _ w19 ⟨rfl, hS20⟩
 have hS20 : St _ _ w19 [plE g0 zA zc A0_1 c0_1 zb zg zl zn p0_4 p0_5 p0_6 p0_7 p0_8 p0_9 p0_10 p0_11, rowE .u8 5 (some ⟨w16.heap.size, 0, none⟩) 7 ([7, 21, 22, 20, 16, 23, 24])] := hS20
 refine ⟨(hS20.pick [0] rfl rfl), ?_⟩
 have hP21 : St _ _ w19 ([plE g0 zA zc A0_1 c0_1 zb zg zl zn p0_4 p0_5 p0_6 p0_7 p0_8 p0_9 p0_10 p0_11] ++ [rowE .u8 5 (some ⟨w16.heap.size, 0, none⟩) 7 ([7, 21, 22, 20, 16, 23, 24])]) := hS20
 obtain ⟨b23, hc22, hF⟩ := bind_in hF
 try dsimp only at hF
 refine gdC 26 ⟨some 30, _, _, _, _, _⟩ _ rfl (by kernel_rfl) (pIs_ok N zb zg zl zn p0_4 p0_5 p0_6 p0_7 p0_8 p0_9 p0_10 p0_11 p0_5 ([7, 21, 22, 20, 16, 23, 24]) g0 zA zc A0_1 c0_1 (some ⟨w16.heap.size, 0, none⟩) 7 _ hc22 w19 (hP21.vwA hv0_0) (hP21.vwA hv0_1) (hP21.vwB 0 rfl) hP21.part) ?_
 rintro _ w24 ⟨rfl, hT26⟩
 have hS25 : St _ _ w24 [rowE .u8 5 (some ⟨w16.heap.size, 0, none⟩) 7 ([7, 21, 22, 20, 16, 23, 24]), plE g0 zA zc A0_1 c0_1 zb zg zl zn p0_4 p0_5 p0_6 p0_7 p0_8 p0_9 p0_10 p0_11] := hP21.lendN _ hT26
 refine ⟨(hS25.pick [1] rfl rfl), gv1 27 31 (.bool b23) rfl (hS25.pick [1] rfl rfl) (gv1 28 32 (.bool b23) rfl (hS25.pick [1] rfl rfl) (gv1 29 2 (.int .u8 0) rfl (hS25.pick [1] rfl rfl) (gv1 30 3 (.bool b23) rfl (hS25.pick [1] rfl rfl) (gd_done (by kernel_rfl) (gx_thenN (hK4 _ _ ?_))))))⟩
 refine gx_ret ?_
 obtain rfl := sj hF
 exact gxF (.tuple #[.int .u8 0, .bool b23]) ⟨_, rfl, rfl, (hS25.pick [1] rfl rfl)⟩
 try dsimp only at hF
 refine gz1 18 22 rfl hS17 (gz1 19 23 rfl hS17 (gz1 20 24 rfl hS17 (gz1 21 25 rfl hS17 (gz1 22 26 rfl hS17 (gz1 23 27 rfl hS17 (gz1 24 28 rfl hS17 (gz1 25 29 rfl hS17 ?_)))))))
 refine gz1 26 30 rfl hS17 (gv1 27 31 (.bool true) rfl hS17 (gv1 28 32 (.bool true) rfl hS17 (gv1 29 2 (.int .u8 0) rfl hS17 (gv1 30 3 (.bool true) rfl hS17 (gd_done (by kernel_rfl) (gx_thenN (hK4 _ _ ?_)))))))
 refine gx_ret ?_
 obtain rfl := sj hF
 exact gxF (.tuple #[.int .u8 0, .bool true]) ⟨_, rfl, rfl, hS17⟩
def qAheadOfDecimals (N : Nat) (zb : List Int) (zg : List Int) (zl : Int) (zn : Int) (p0_4 : Int) (p0_5 : Int) (p0_6 : Int) (p0_7 : Int) (p0_8 : Int) (p0_9 : Bool) (p0_10 : Bool) (p0_11 : Bool) : Option (Int × Bool) :=
 ((((pIs N zb zg zl zn p0_4 p0_5 p0_6 p0_7 p0_8 p0_9 p0_10 p0_11 zn ([5])).bind fun b20 => (match b20 with | true => ((pIs N zb zg zl zn p0_4 p0_5 p0_6 p0_7 p0_8 p0_9 p0_10 p0_11 p0_4 ([23])).bind fun b28 => some (b28)) | false => some (false))) : Option (Bool)).bind fun b12 => (match b12 with | true => ((pDigit N zb zg zl zn p0_4 p0_5 p0_6 p0_7 p0_8 p0_9 p0_10 p0_11 p0_5).bind fun b34 => some (1, b34)) | false => some (1, false)))
def qAheadOfDecimals_R (zb : List Int) (zg : List Int) (zl : Int) (zn : Int) (p0_4 : Int) (p0_5 : Int) (p0_6 : Int) (p0_7 : Int) (p0_8 : Int) (p0_9 : Bool) (p0_10 : Bool) (p0_11 : Bool) (g0 : Nat) (zA : Option Addr) (zc : Nat) (A0_1 : Option Addr) (c0_1 : Nat) (r : Int × Bool) (w0 : World) (v : Value) (w : World) : Prop := v = .tuple #[.int .u8 r.1, .bool r.2] ∧ St (foots [plE g0 zA zc A0_1 c0_1 zb zg zl zn p0_4 p0_5 p0_6 p0_7 p0_8 p0_9 p0_10 p0_11]) w0 w [plE g0 zA zc A0_1 c0_1 zb zg zl zn p0_4 p0_5 p0_6 p0_7 p0_8 p0_9 p0_10 p0_11]
theorem qAheadOfDecimals_ok (N : Nat) (zb : List Int) (zg : List Int) (zl : Int) (zn : Int) (p0_4 : Int) (p0_5 : Int) (p0_6 : Int) (p0_7 : Int) (p0_8 : Int) (p0_9 : Bool) (p0_10 : Bool) (p0_11 : Bool) (g0 : Nat) (zA : Option Addr) (zc : Nat) (A0_1 : Option Addr) (c0_1 : Nat) (r : Int × Bool) (hF : qAheadOfDecimals N zb zg zl zn p0_4 p0_5 p0_6 p0_7 p0_8 p0_9 p0_10 p0_11 = some r) (w0 : World) (hv0_0 : Vw (foots [plE g0 zA zc A0_1 c0_1 zb zg zl zn p0_4 p0_5 p0_6 p0_7 p0_8 p0_9 p0_10 p0_11]) .i32 w0 zA zc zb) (hv0_1 : Vw (foots [plE g0 zA zc A0_1 c0_1 zb zg zl zn p0_4 p0_5 p0_6 p0_7 p0_8 p0_9 p0_10 p0_11]) .u8 w0 A0_1 c0_1 zg) (hl : St (foots [plE g0 zA zc A0_1 c0_1 zb zg zl zn p0_4 p0_5 p0_6 p0_7 p0_8 p0_9 p0_10 p0_11]) w0 w0 [plE g0 zA zc A0_1 c0_1 zb zg zl zn p0_4 p0_5 p0_6 p0_7 p0_8 p0_9 p0_10 p0_11]) :
  Calls Tryz.prog 35 #[.pointer (some ⟨g0, 0, none⟩)] w0 fun e w => ∃ v, e = .returned v ∧ qAheadOfDecimals_R zb zg zl zn p0_4 p0_5 p0_6 p0_7 p0_8 p0_9 p0_10 p0_11 g0 zA zc A0_1 c0_1 r w0 v w := by
 have hS0 := hl
 unfold qAheadOfDecimals at hF
 refine calls_of Tryz.func35 rfl ⟨((vP g0) :: un 33 ([])).toArray, []⟩ (by kernel_rfl) (gx_seq (fun K1 hK2 => gx_region (gx_k (.int .u8 0) w0 (gx_k (.bool false) w0 (gx_nil (gx_thenN (hK2 _ _ (gx_seq (fun K3 hK4 => ?_)))))))))
 refine gdst (fun w => St (foots [plE g0 zA zc A0_1 c0_1 zb zg zl zn p0_4 p0_5 p0_6 p0_7 p0_8 p0_9 p0_10 p0_11]) w0 w [plE g0 zA zc A0_1 c0_1 zb zg zl zn p0_4 p0_5 p0_6 p0_7 p0_8 p0_9 p0_10 p0_11]) 32 ?_
 have hS6 := hS0.drew
 generalize w0.drew = w5 at hS6 ⊢
 refine gv1 0 4 (vP g0) rfl hS6 (gv1 1 5 (vP g0) rfl hS6 (gv1 2 6 (vP g0) rfl hS6 (gv1 3 7 (vP g0) rfl hS6 (gv1 4 8 (vP g0) rfl hS6 (gv1 5 9 (vQ g0 3) rfl hS6 (gu1 6 10 (i6 zn) rfl hS6 (fun w hSw => rl1 (hSw.box 0 rfl 3 rfl)) (gdR 7 ⟨some 11, _, _, _, _, _⟩ rfl (st_made .u8 5 [5] hS6 (by show 1 ≤ 1000000000; decide) (by kernel_rfl)) ?_)))))))
 rintro _ w7 ⟨rfl, hS8⟩
 have hS8 : St _ _ w7 [plE g0 zA zc A0_1 c0_1 zb zg zl zn p0_4 p0_5 p0_6 p0_7 p0_8 p0_9 p0_10 p0_11, rowE .u8 5 (some ⟨w5.heap.size, 0, none⟩) 1 ([5])] := hS8
 refine ⟨(hS8.pick [0] rfl rfl), ?_⟩
 obtain ⟨c13, hE14, hO15⟩ := bind_in hF
 refine gd_mid (fun a w => ∃ (b12 : Bool), selfA (fun u11 => ⟨((vP g0) :: undef :: (.int .u8 0) :: (.bool false) :: (vP g0) :: (vP g0) :: (vP g0) :: (vP g0) :: (vP g0) :: (vQ g0 3) :: (i6 zn) :: dd u11 11 12 ((.bool b12) :: un 10 ([]))).toArray, []⟩) a ∧ b12 = c13 ∧ St (foots [plE g0 zA zc A0_1 c0_1 zb zg zl zn p0_4 p0_5 p0_6 p0_7 p0_8 p0_9 p0_10 p0_11]) w0 w [plE g0 zA zc A0_1 c0_1 zb zg zl zn p0_4 p0_5 p0_6 p0_7 p0_8 p0_9 p0_10 p0_11]) 12 #[true, true, true, true, true, true, true, true, true, true, true, true, true, true, true, true, true, true, true, true, false, false, false, false, false, false, false, false, false, false, false, false] ?_ ?_
 rintro _ w9 ⟨b12, hq16, rfl, hS10⟩
 obtain ⟨u11, rfl⟩ := selfA_u hq16
 try dsimp only at hO15
 refine gv1 20 24 (.bool b12) rfl hS10 ?_
 rcases b12 with _ | _
 try dsimp only at hO15
 refine gz1 21 25 rfl hS10 (gz1 22 26 rfl hS10 (gz1 23 27 rfl hS10 (gz1 24 28 rfl hS10 (gz1 25 29 rfl hS10 (gz1 26 30 rfl hS10 (gz1 27 31 rfl hS10 (gz1 28 32 rfl hS10 ?_)))))))
 refine gv1 29 33 (.bool false) rfl hS10 (gv1 30 2 (.int .u8 1) rfl hS10 (gv1 31 3 (.bool false) rfl hS10 (gd_done (by kernel_rfl) (gx_thenN (hK4 _ _ (gx_ret ?_))))))
 obtain rfl := sj hO15
 exact gxF (.tuple #[.int .u8 1, .bool false]) ⟨_, rfl, rfl, hS10⟩
 try dsimp only at hO15
 refine gv1 21 25 (vP g0) rfl hS10 (gv1 22 26 (vP g0) rfl hS10 (gv1 23 27 (vP g0) rfl hS10 (gv1 24 28 (vP g0) rfl hS10 (gv1 25 29 (vP g0) rfl hS10 (gv1 26 30 (vQ g0 5) rfl hS10 (gu1 27 31 (i6 p0_5) rfl hS10 (fun w hSw => rl1 (hSw.box 0 rfl 5 rfl)) ?_))))))
 have hP32 : St _ _ w9 ([plE g0 zA zc A0_1 c0_1 zb zg zl zn p0_4 p0_5 p0_6 p0_7 p0_8 p0_9 p0_10 p0_11] ++ []) := hS10
 obtain ⟨b34, hc33, hO15⟩ := bind_in hO15
 try dsimp only at hO15
 refine gdC 28 ⟨some 32, _, _, _, _, _⟩ _ rfl (by kernel_rfl) (pDigit_ok N zb zg zl zn p0_4 p0_5 p0_6 p0_7 p0_8 p0_9 p0_10 p0_11 p0_5 g0 zA zc A0_1 c0_1 _ hc33 w9 (hP32.vwA hv0_0) (hP32.vwA hv0_1) hP32.part) ?_
 rintro _ w35 ⟨rfl, hT37⟩
 have hS36 : St _ _ w35 [plE g0 zA zc A0_1 c0_1 zb zg zl zn p0_4 p0_5 p0_6 p0_7 p0_8 p0_9 p0_10 p0_11] := hP32.lendN _ hT37
 refine ⟨hS36, gv1 29 33 (.bool b34) rfl hS36 (gv1 30 2 (.int .u8 1) rfl hS36 (gv1 31 3 (.bool b34) rfl hS36 (gd_done (by kernel_rfl) (gx_thenN (hK4 _ _ (gx_ret ?_))))))⟩
 obtain rfl := sj hO15
 exact gxF (.tuple #[.int .u8 1, .bool b34]) ⟨_, rfl, rfl, hS36⟩
 intro hK17
 have hP18 : St _ _ w7 ([plE g0 zA zc A0_1 c0_1 zb zg zl zn p0_4 p0_5 p0_6 p0_7 p0_8 p0_9 p0_10 p0_11] ++ [rowE .u8 5 (some ⟨w5.heap.size, 0, none⟩) 1 ([5])]) := hS8
 obtain ⟨b20, hc19, hE14⟩ := bind_in hE14
 try dsimp only at hE14
 refine gdC 8 ⟨some 12, _, _, _, _, _⟩ _ rfl (by kernel_rfl) (pIs_ok N zb zg zl zn p0_4 p0_5 p0_6 p0_7 p0_8 p0_9 p0_10 p0_11 zn ([5]) g0 zA zc A0_1 c0_1 (some ⟨w5.heap.size, 0, none⟩) 1 _ hc19 w7 (hP18.vwA hv0_0) (hP18.vwA hv0_1) (hP18.vwB 0 rfl) hP18.part) ?_
 rintro _ w21 ⟨rfl, hT23⟩
 have hS22 : St _ _ w21 [rowE .u8 5 (some ⟨w5.heap.size, 0, none⟩) 1 ([5]), plE g0 zA zc A0_1 c0_1 zb zg zl zn p0_4 p0_5 p0_6 p0_7 p0_8 p0_9 p0_10 p0_11] := hP18.lendN _ hT23
 refine ⟨(hS22.pick [1] rfl rfl), gv1 9 13 (.bool b20) rfl (hS22.pick [1] rfl rfl) ?_⟩
 rcases b20 with _ | _
 try dsimp only at hE14
 refine gz1 10 14 rfl (hS22.pick [1] rfl rfl) (gz1 11 15 rfl (hS22.pick [1] rfl rfl) (gz1 12 16 rfl (hS22.pick [1] rfl rfl) (gz1 13 17 rfl (hS22.pick [1] rfl rfl) (gz1 14 18 rfl (hS22.pick [1] rfl rfl) (gz1 15 19 rfl (hS22.pick [1] rfl rfl) (gz1 16 20 rfl (hS22.pick [1] rfl rfl) (gz1 17 21 rfl (hS22.pick [1] rfl rfl) ?_)))))))
 refine gz1 18 22 rfl (hS22.pick [1] rfl rfl) (gv1 19 23 (.bool false) rfl (hS22.pick [1] rfl rfl) ?_)
 exact gd_to hK17 (by kernel_rfl) ⟨false, selfA_i (by kernel_rfl), (sj hE14), (hS22.pick [1] rfl rfl)⟩
 try dsimp only at hE14
 refine gv1 10 14 (vP g0) rfl (hS22.pick [1] rfl rfl) (gv1 11 15 (vP g0) rfl (hS22.pick [1] rfl rfl) (gv1 12 16 (vP g0) rfl (hS22.pick [1] rfl rfl) (gv1 13 17 (vP g0) rfl (hS22.pick [1] rfl rfl) (gv1 14 18 (vP g0) rfl (hS22.pick [1] rfl rfl) (gv1 15 19 (vQ g0 4) rfl (hS22.pick [1] rfl rfl) (gu1 16 20 (i6 p0_4) rfl (hS22.pick [1] rfl rfl) (fun w hSw => rl1 (hSw.box 0 rfl 4 rfl)) (gdR 17 ⟨some 21, _, _, _, _, _⟩ rfl (st_made .u8 5 [23] hS22 (by show 1 ≤ 1000000000; decide) (by kernel_rfl)) ?_)))))))
 rintro _ w24 ⟨rfl, hS25⟩
 have hS25 : St _ _ w24 [rowE .u8 5 (some ⟨w5.heap.size, 0, none⟩) 1 ([5]), plE g0 zA zc A0_1 c0_1 zb zg zl zn p0_4 p0_5 p0_6 p0_7 p0_8 p0_9 p0_10 p0_11, rowE .u8 5 (some ⟨w21.heap.size, 0, none⟩) 1 ([23])] := hS25
 refine ⟨(hS25.pick [1] rfl rfl), ?_⟩
 have hP26 : St _ _ w24 ([plE g0 zA zc A0_1 c0_1 zb zg zl zn p0_4 p0_5 p0_6 p0_7 p0_8 p0_9 p0_10 p0_11] ++ [rowE .u8 5 (some ⟨w5.heap.size, 0, none⟩) 1 ([5]), rowE .u8 5 (some ⟨w21.heap.size, 0, none⟩) 1 ([23])]) := hS25.pick [1, 0, 2] rfl rfl
 obtain ⟨b28, hc27, hE14⟩ := bind_in hE14
 try dsimp only at hE14
 refine gdC 18 ⟨some 22, _, _, _, _, _⟩ _ rfl (by kernel_rfl) (pIs_ok N zb zg zl zn p0_4 p0_5 p0_6 p0_7 p0_8 p0_9 p0_10 p0_11 p0_4 ([23]) g0 zA zc A0_1 c0_1 (some ⟨w21.heap.size, 0, none⟩) 1 _ hc27 w24 (hP26.vwA hv0_0) (hP26.vwA hv0_1) (hP26.vwB 1 rfl) hP26.part) ?_
 rintro _ w29 ⟨rfl, hT31⟩
 have hS30 : St _ _ w29 [rowE .u8 5 (some ⟨w5.heap.size, 0, none⟩) 1 ([5]), rowE .u8 5 (some ⟨w21.heap.size, 0, none⟩) 1 ([23]), plE g0 zA zc A0_1 c0_1 zb zg zl zn p0_4 p0_5 p0_6 p0_7 p0_8 p0_9 p0_10 p0_11] := hP26.lendN _ hT31
 refine ⟨(hS30.pick [2] rfl rfl), gv1 19 23 (.bool b28) rfl (hS30.pick [2] rfl rfl) ?_⟩
 exact gd_to hK17 (by kernel_rfl) ⟨b28, selfA_i (by kernel_rfl), (sj hE14), (hS30.pick [2] rfl rfl)⟩
def qAheadOfSeparator (N : Nat) (zb : List Int) (zg : List Int) (zl : Int) (zn : Int) (p0_4 : Int) (p0_5 : Int) (p0_6 : Int) (p0_7 : Int) (p0_8 : Int) (p0_9 : Bool) (p0_10 : Bool) (p0_11 : Bool) : Option (Int × Bool) :=
 ((pIs N zb zg zl zn p0_4 p0_5 p0_6 p0_7 p0_8 p0_9 p0_10 p0_11 p0_4 ([23])).bind fun b11 => some (0, b11))
def qAheadOfSeparator_R (zb : List Int) (zg : List Int) (zl : Int) (zn : Int) (p0_4 : Int) (p0_5 : Int) (p0_6 : Int) (p0_7 : Int) (p0_8 : Int) (p0_9 : Bool) (p0_10 : Bool) (p0_11 : Bool) (g0 : Nat) (zA : Option Addr) (zc : Nat) (A0_1 : Option Addr) (c0_1 : Nat) (r : Int × Bool) (w0 : World) (v : Value) (w : World) : Prop := v = .tuple #[.int .u8 r.1, .bool r.2] ∧ St (foots [plE g0 zA zc A0_1 c0_1 zb zg zl zn p0_4 p0_5 p0_6 p0_7 p0_8 p0_9 p0_10 p0_11]) w0 w [plE g0 zA zc A0_1 c0_1 zb zg zl zn p0_4 p0_5 p0_6 p0_7 p0_8 p0_9 p0_10 p0_11]
theorem qAheadOfSeparator_ok (N : Nat) (zb : List Int) (zg : List Int) (zl : Int) (zn : Int) (p0_4 : Int) (p0_5 : Int) (p0_6 : Int) (p0_7 : Int) (p0_8 : Int) (p0_9 : Bool) (p0_10 : Bool) (p0_11 : Bool) (g0 : Nat) (zA : Option Addr) (zc : Nat) (A0_1 : Option Addr) (c0_1 : Nat) (r : Int × Bool) (hF : qAheadOfSeparator N zb zg zl zn p0_4 p0_5 p0_6 p0_7 p0_8 p0_9 p0_10 p0_11 = some r) (w0 : World) (hv0_0 : Vw (foots [plE g0 zA zc A0_1 c0_1 zb zg zl zn p0_4 p0_5 p0_6 p0_7 p0_8 p0_9 p0_10 p0_11]) .i32 w0 zA zc zb) (hv0_1 : Vw (foots [plE g0 zA zc A0_1 c0_1 zb zg zl zn p0_4 p0_5 p0_6 p0_7 p0_8 p0_9 p0_10 p0_11]) .u8 w0 A0_1 c0_1 zg) (hl : St (foots [plE g0 zA zc A0_1 c0_1 zb zg zl zn p0_4 p0_5 p0_6 p0_7 p0_8 p0_9 p0_10 p0_11]) w0 w0 [plE g0 zA zc A0_1 c0_1 zb zg zl zn p0_4 p0_5 p0_6 p0_7 p0_8 p0_9 p0_10 p0_11]) :
  Calls Tryz.prog 36 #[.pointer (some ⟨g0, 0, none⟩)] w0 fun e w => ∃ v, e = .returned v ∧ qAheadOfSeparator_R zb zg zl zn p0_4 p0_5 p0_6 p0_7 p0_8 p0_9 p0_10 p0_11 g0 zA zc A0_1 c0_1 r w0 v w := by
 have hS0 := hl
 unfold qAheadOfSeparator at hF
 refine calls_of Tryz.func36 rfl ⟨((vP g0) :: un 12 ([])).toArray, []⟩ (by kernel_rfl) (gx_seq (fun K1 hK2 => gx_region (gx_k (.int .u8 0) w0 (gx_k (.bool false) w0 (gx_nil (gx_thenN (hK2 _ _ (gx_seq (fun K3 hK4 => ?_)))))))))
 refine gdst (fun w => St (foots [plE g0 zA zc A0_1 c0_1 zb zg zl zn p0_4 p0_5 p0_6 p0_7 p0_8 p0_9 p0_10 p0_11]) w0 w [plE g0 zA zc A0_1 c0_1 zb zg zl zn p0_4 p0_5 p0_6 p0_7 p0_8 p0_9 p0_10 p0_11]) 11 ?_
 have hS6 := hS0.drew
 generalize w0.drew = w5 at hS6 ⊢
 refine gv1 0 4 (vP g0) rfl hS6 (gv1 1 5 (vP g0) rfl hS6 (gv1 2 6 (vP g0) rfl hS6 (gv1 3 7 (vP g0) rfl hS6 (gv1 4 8 (vP g0) rfl hS6 (gv1 5 9 (vQ g0 4) rfl hS6 (gu1 6 10 (i6 p0_4) rfl hS6 (fun w hSw => rl1 (hSw.box 0 rfl 4 rfl)) (gdR 7 ⟨some 11, _, _, _, _, _⟩ rfl (st_made .u8 5 [23] hS6 (by show 1 ≤ 1000000000; decide) (by kernel_rfl)) ?_)))))))
 rintro _ w7 ⟨rfl, hS8⟩
 have hS8 : St _ _ w7 [plE g0 zA zc A0_1 c0_1 zb zg zl zn p0_4 p0_5 p0_6 p0_7 p0_8 p0_9 p0_10 p0_11, rowE .u8 5 (some ⟨w5.heap.size, 0, none⟩) 1 ([23])] := hS8
 refine ⟨(hS8.pick [0] rfl rfl), ?_⟩
 have hP9 : St _ _ w7 ([plE g0 zA zc A0_1 c0_1 zb zg zl zn p0_4 p0_5 p0_6 p0_7 p0_8 p0_9 p0_10 p0_11] ++ [rowE .u8 5 (some ⟨w5.heap.size, 0, none⟩) 1 ([23])]) := hS8
 obtain ⟨b11, hc10, hF⟩ := bind_in hF
 try dsimp only at hF
 refine gdC 8 ⟨some 12, _, _, _, _, _⟩ _ rfl (by kernel_rfl) (pIs_ok N zb zg zl zn p0_4 p0_5 p0_6 p0_7 p0_8 p0_9 p0_10 p0_11 p0_4 ([23]) g0 zA zc A0_1 c0_1 (some ⟨w5.heap.size, 0, none⟩) 1 _ hc10 w7 (hP9.vwA hv0_0) (hP9.vwA hv0_1) (hP9.vwB 0 rfl) hP9.part) ?_
 rintro _ w12 ⟨rfl, hT14⟩
 have hS13 : St _ _ w12 [rowE .u8 5 (some ⟨w5.heap.size, 0, none⟩) 1 ([23]), plE g0 zA zc A0_1 c0_1 zb zg zl zn p0_4 p0_5 p0_6 p0_7 p0_8 p0_9 p0_10 p0_11] := hP9.lendN _ hT14
 refine ⟨(hS13.pick [1] rfl rfl), gv1 9 2 (.int .u8 0) rfl (hS13.pick [1] rfl rfl) (gv1 10 3 (.bool b11) rfl (hS13.pick [1] rfl rfl) (gd_done (by kernel_rfl) (gx_thenN (hK4 _ _ (gx_ret ?_)))))⟩
 obtain rfl := sj hF
 exact gxF (.tuple #[.int .u8 0, .bool b11]) ⟨_, rfl, rfl, (hS13.pick [1] rfl rfl)⟩
def qAheadOfNonstarter (N : Nat) (zb : List Int) (zg : List Int) (zl : Int) (zn : Int) (p0_4 : Int) (p0_5 : Int) (p0_6 : Int) (p0_7 : Int) (p0_8 : Int) (p0_9 : Bool) (p0_10 : Bool) (p0_11 : Bool) : Option (Int × Bool) :=
 ((pIs N zb zg zl zn p0_4 p0_5 p0_6 p0_7 p0_8 p0_9 p0_10 p0_11 p0_8 ([21, 20])).bind fun b11 => (match b11 with | true => ((pIs N zb zg zl zn p0_4 p0_5 p0_6 p0_7 p0_8 p0_9 p0_10 p0_11 p0_4 ([18])).bind fun b19 => some (0, b19)) | false => some (0, false)))
def qAheadOfNonstarter_R (zb : List Int) (zg : List Int) (zl : Int) (zn : Int) (p0_4 : Int) (p0_5 : Int) (p0_6 : Int) (p0_7 : Int) (p0_8 : Int) (p0_9 : Bool) (p0_10 : Bool) (p0_11 : Bool) (g0 : Nat) (zA : Option Addr) (zc : Nat) (A0_1 : Option Addr) (c0_1 : Nat) (r : Int × Bool) (w0 : World) (v : Value) (w : World) : Prop := v = .tuple #[.int .u8 r.1, .bool r.2] ∧ St (foots [plE g0 zA zc A0_1 c0_1 zb zg zl zn p0_4 p0_5 p0_6 p0_7 p0_8 p0_9 p0_10 p0_11]) w0 w [plE g0 zA zc A0_1 c0_1 zb zg zl zn p0_4 p0_5 p0_6 p0_7 p0_8 p0_9 p0_10 p0_11]
theorem qAheadOfNonstarter_ok (N : Nat) (zb : List Int) (zg : List Int) (zl : Int) (zn : Int) (p0_4 : Int) (p0_5 : Int) (p0_6 : Int) (p0_7 : Int) (p0_8 : Int) (p0_9 : Bool) (p0_10 : Bool) (p0_11 : Bool) (g0 : Nat) (zA : Option Addr) (zc : Nat) (A0_1 : Option Addr) (c0_1 : Nat) (r : Int × Bool) (hF : qAheadOfNonstarter N zb zg zl zn p0_4 p0_5 p0_6 p0_7 p0_8 p0_9 p0_10 p0_11 = some r) (w0 : World) (hv0_0 : Vw (foots [plE g0 zA zc A0_1 c0_1 zb zg zl zn p0_4 p0_5 p0_6 p0_7 p0_8 p0_9 p0_10 p0_11]) .i32 w0 zA zc zb) (hv0_1 : Vw (foots [plE g0 zA zc A0_1 c0_1 zb zg zl zn p0_4 p0_5 p0_6 p0_7 p0_8 p0_9 p0_10 p0_11]) .u8 w0 A0_1 c0_1 zg) (hl : St (foots [plE g0 zA zc A0_1 c0_1 zb zg zl zn p0_4 p0_5 p0_6 p0_7 p0_8 p0_9 p0_10 p0_11]) w0 w0 [plE g0 zA zc A0_1 c0_1 zb zg zl zn p0_4 p0_5 p0_6 p0_7 p0_8 p0_9 p0_10 p0_11]) :
  Calls Tryz.prog 37 #[.pointer (some ⟨g0, 0, none⟩)] w0 fun e w => ∃ v, e = .returned v ∧ qAheadOfNonstarter_R zb zg zl zn p0_4 p0_5 p0_6 p0_7 p0_8 p0_9 p0_10 p0_11 g0 zA zc A0_1 c0_1 r w0 v w := by
 have hS0 := hl
 unfold qAheadOfNonstarter at hF
 refine calls_of Tryz.func37 rfl ⟨((vP g0) :: un 23 ([])).toArray, []⟩ (by kernel_rfl) (gx_seq (fun K1 hK2 => gx_region (gx_k (.int .u8 0) w0 (gx_k (.bool false) w0 (gx_nil (gx_thenN (hK2 _ _ (gx_seq (fun K3 hK4 => ?_)))))))))
 refine gdst (fun w => St (foots [plE g0 zA zc A0_1 c0_1 zb zg zl zn p0_4 p0_5 p0_6 p0_7 p0_8 p0_9 p0_10 p0_11]) w0 w [plE g0 zA zc A0_1 c0_1 zb zg zl zn p0_4 p0_5 p0_6 p0_7 p0_8 p0_9 p0_10 p0_11]) 22 ?_
 have hS6 := hS0.drew
 generalize w0.drew = w5 at hS6 ⊢
 refine gv1 0 4 (vP g0) rfl hS6 (gv1 1 5 (vP g0) rfl hS6 (gv1 2 6 (vP g0) rfl hS6 (gv1 3 7 (vP g0) rfl hS6 (gv1 4 8 (vP g0) rfl hS6 (gv1 5 9 (vQ g0 8) rfl hS6 (gu1 6 10 (i6 p0_8) rfl hS6 (fun w hSw => rl1 (hSw.box 0 rfl 8 rfl)) (gdR 7 ⟨some 11, _, _, _, _, _⟩ rfl (st_made .u8 5 [21, 20] hS6 (by show 2 ≤ 1000000000; decide) (by kernel_rfl)) ?_)))))))
 rintro _ w7 ⟨rfl, hS8⟩
 have hS8 : St _ _ w7 [plE g0 zA zc A0_1 c0_1 zb zg zl zn p0_4 p0_5 p0_6 p0_7 p0_8 p0_9 p0_10 p0_11, rowE .u8 5 (some ⟨w5.heap.size, 0, none⟩) 2 ([21, 20])] := hS8
 refine ⟨(hS8.pick [0] rfl rfl), ?_⟩
 have hP9 : St _ _ w7 ([plE g0 zA zc A0_1 c0_1 zb zg zl zn p0_4 p0_5 p0_6 p0_7 p0_8 p0_9 p0_10 p0_11] ++ [rowE .u8 5 (some ⟨w5.heap.size, 0, none⟩) 2 ([21, 20])]) := hS8
 obtain ⟨b11, hc10, hF⟩ := bind_in hF
 try dsimp only at hF
 refine gdC 8 ⟨some 12, _, _, _, _, _⟩ _ rfl (by kernel_rfl) (pIs_ok N zb zg zl zn p0_4 p0_5 p0_6 p0_7 p0_8 p0_9 p0_10 p0_11 p0_8 ([21, 20]) g0 zA zc A0_1 c0_1 (some ⟨w5.heap.size, 0, none⟩) 2 _ hc10 w7 (hP9.vwA hv0_0) (hP9.vwA hv0_1) (hP9.vwB 0 rfl) hP9.part) ?_
 rintro _ w12 ⟨rfl, hT14⟩
 have hS13 : St _ _ w12 [rowE .u8 5 (some ⟨w5.heap.size, 0, none⟩) 2 ([21, 20]), plE g0 zA zc A0_1 c0_1 zb zg zl zn p0_4 p0_5 p0_6 p0_7 p0_8 p0_9 p0_10 p0_11] := hP9.lendN _ hT14
 refine ⟨(hS13.pick [1] rfl rfl), gv1 9 13 (.bool b11) rfl (hS13.pick [1] rfl rfl) ?_⟩
 rcases b11 with _ | _
 try dsimp only at hF
 refine gz1 10 14 rfl (hS13.pick [1] rfl rfl) (gz1 11 15 rfl (hS13.pick [1] rfl rfl) (gz1 12 16 rfl (hS13.pick [1] rfl rfl) (gz1 13 17 rfl (hS13.pick [1] rfl rfl) (gz1 14 18 rfl (hS13.pick [1] rfl rfl) (gz1 15 19 rfl (hS13.pick [1] rfl rfl) (gz1 16 20 rfl (hS13.pick [1] rfl rfl) (gz1 17 21 rfl (hS13.pick [1] rfl rfl) ?_)))))))
 refine gz1 18 22 rfl (hS13.pick [1] rfl rfl) (gv1 19 23 (.bool false) rfl (hS13.pick [1] rfl rfl) (gv1 20 2 (.int .u8 0) rfl (hS13.pick [1] rfl rfl) (gv1 21 3 (.bool false) rfl (hS13.pick [1] rfl rfl) (gd_done (by kernel_rfl) (gx_thenN (hK4 _ _ (gx_ret ?_)))))))
 obtain rfl := sj hF
 exact gxF (.tuple #[.int .u8 0, .bool false]) ⟨_, rfl, rfl, (hS13.pick [1] rfl rfl)⟩
 try dsimp only at hF
 refine gv1 10 14 (vP g0) rfl (hS13.pick [1] rfl rfl) (gv1 11 15 (vP g0) rfl (hS13.pick [1] rfl rfl) (gv1 12 16 (vP g0) rfl (hS13.pick [1] rfl rfl) (gv1 13 17 (vP g0) rfl (hS13.pick [1] rfl rfl) (gv1 14 18 (vP g0) rfl (hS13.pick [1] rfl rfl) (gv1 15 19 (vQ g0 4) rfl (hS13.pick [1] rfl rfl) (gu1 16 20 (i6 p0_4) rfl (hS13.pick [1] rfl rfl) (fun w hSw => rl1 (hSw.box 0 rfl 4 rfl)) (gdR 17 ⟨some 21, _, _, _, _, _⟩ rfl (st_made .u8 5 [18] hS13 (by show 1 ≤ 1000000000; decide) (by kernel_rfl)) ?_)))))))
 rintro _ w15 ⟨rfl, hS16⟩
 have hS16 : St _ _ w15 [rowE .u8 5 (some ⟨w5.heap.size, 0, none⟩) 2 ([21, 20]), plE g0 zA zc A0_1 c0_1 zb zg zl zn p0_4 p0_5 p0_6 p0_7 p0_8 p0_9 p0_10 p0_11, rowE .u8 5 (some ⟨w12.heap.size, 0, none⟩) 1 ([18])] := hS16
 refine ⟨(hS16.pick [1] rfl rfl), ?_⟩
 have hP17 : St _ _ w15 ([plE g0 zA zc A0_1 c0_1 zb zg zl zn p0_4 p0_5 p0_6 p0_7 p0_8 p0_9 p0_10 p0_11] ++ [rowE .u8 5 (some ⟨w5.heap.size, 0, none⟩) 2 ([21, 20]), rowE .u8 5 (some ⟨w12.heap.size, 0, none⟩) 1 ([18])]) := hS16.pick [1, 0, 2] rfl rfl
 obtain ⟨b19, hc18, hF⟩ := bind_in hF
 try dsimp only at hF
 refine gdC 18 ⟨some 22, _, _, _, _, _⟩ _ rfl (by kernel_rfl) (pIs_ok N zb zg zl zn p0_4 p0_5 p0_6 p0_7 p0_8 p0_9 p0_10 p0_11 p0_4 ([18]) g0 zA zc A0_1 c0_1 (some ⟨w12.heap.size, 0, none⟩) 1 _ hc18 w15 (hP17.vwA hv0_0) (hP17.vwA hv0_1) (hP17.vwB 1 rfl) hP17.part) ?_
 rintro _ w20 ⟨rfl, hT22⟩
 have hS21 : St _ _ w20 [rowE .u8 5 (some ⟨w5.heap.size, 0, none⟩) 2 ([21, 20]), rowE .u8 5 (some ⟨w12.heap.size, 0, none⟩) 1 ([18]), plE g0 zA zc A0_1 c0_1 zb zg zl zn p0_4 p0_5 p0_6 p0_7 p0_8 p0_9 p0_10 p0_11] := hP17.lendN _ hT22
 refine ⟨(hS21.pick [2] rfl rfl), gv1 19 23 (.bool b19) rfl (hS21.pick [2] rfl rfl) (gv1 20 2 (.int .u8 0) rfl (hS21.pick [2] rfl rfl) (gv1 21 3 (.bool b19) rfl (hS21.pick [2] rfl rfl) (gd_done (by kernel_rfl) (gx_thenN (hK4 _ _ (gx_ret ?_))))))⟩
 obtain rfl := sj hF
 exact gxF (.tuple #[.int .u8 0, .bool b19]) ⟨_, rfl, rfl, (hS21.pick [2] rfl rfl)⟩
end Go.Proofs.YtdbimchiecdkoaaGreat
