/-
  The rules, walked.
-/
import Derived.Test.YtdbimchiecdkoaaGreatPJ
namespace Go.Proofs.YtdbimchiecdkoaaGreat
open Go Go.RowKit
set_option maxRecDepth 100000
set_option maxHeartbeats 4000000
set_option linter.unusedVariables false
def qSlashHebrew (N : Nat) (zb : List Int) (zg : List Int) (zl : Int) (zn : Int) (p0_4 : Int) (p0_5 : Int) (p0_6 : Int) (p0_7 : Int) (p0_8 : Int) (p0_9 : Bool) (p0_10 : Bool) (p0_11 : Bool) : Option (Int × Bool) :=
 ((pIs N zb zg zl zn p0_4 p0_5 p0_6 p0_7 p0_8 p0_9 p0_10 p0_11 zn ([24])).bind fun b11 => (match b11 with | true => ((pIs N zb zg zl zn p0_4 p0_5 p0_6 p0_7 p0_8 p0_9 p0_10 p0_11 p0_4 ([28])).bind fun b19 => some (0, b19)) | false => some (0, false)))
def qSlashHebrew_R (zb : List Int) (zg : List Int) (zl : Int) (zn : Int) (p0_4 : Int) (p0_5 : Int) (p0_6 : Int) (p0_7 : Int) (p0_8 : Int) (p0_9 : Bool) (p0_10 : Bool) (p0_11 : Bool) (g0 : Nat) (zA : Option Addr) (zc : Nat) (A0_1 : Option Addr) (c0_1 : Nat) (r : Int × Bool) (w0 : World) (v : Value) (w : World) : Prop := v = .tuple #[.int .u8 r.1, .bool r.2] ∧ St (foots [plE g0 zA zc A0_1 c0_1 zb zg zl zn p0_4 p0_5 p0_6 p0_7 p0_8 p0_9 p0_10 p0_11]) w0 w [plE g0 zA zc A0_1 c0_1 zb zg zl zn p0_4 p0_5 p0_6 p0_7 p0_8 p0_9 p0_10 p0_11]
theorem qSlashHebrew_ok (N : Nat) (zb : List Int) (zg : List Int) (zl : Int) (zn : Int) (p0_4 : Int) (p0_5 : Int) (p0_6 : Int) (p0_7 : Int) (p0_8 : Int) (p0_9 : Bool) (p0_10 : Bool) (p0_11 : Bool) (g0 : Nat) (zA : Option Addr) (zc : Nat) (A0_1 : Option Addr) (c0_1 : Nat) (r : Int × Bool) (hF : qSlashHebrew N zb zg zl zn p0_4 p0_5 p0_6 p0_7 p0_8 p0_9 p0_10 p0_11 = some r) (w0 : World) (hv0_0 : Vw (foots [plE g0 zA zc A0_1 c0_1 zb zg zl zn p0_4 p0_5 p0_6 p0_7 p0_8 p0_9 p0_10 p0_11]) .i32 w0 zA zc zb) (hv0_1 : Vw (foots [plE g0 zA zc A0_1 c0_1 zb zg zl zn p0_4 p0_5 p0_6 p0_7 p0_8 p0_9 p0_10 p0_11]) .u8 w0 A0_1 c0_1 zg) (hl : St (foots [plE g0 zA zc A0_1 c0_1 zb zg zl zn p0_4 p0_5 p0_6 p0_7 p0_8 p0_9 p0_10 p0_11]) w0 w0 [plE g0 zA zc A0_1 c0_1 zb zg zl zn p0_4 p0_5 p0_6 p0_7 p0_8 p0_9 p0_10 p0_11]) :
  Calls Tryz.prog 48 #[.pointer (some ⟨g0, 0, none⟩)] w0 fun e w => ∃ v, e = .returned v ∧ qSlashHebrew_R zb zg zl zn p0_4 p0_5 p0_6 p0_7 p0_8 p0_9 p0_10 p0_11 g0 zA zc A0_1 c0_1 r w0 v w := by
 have hS0 := hl
 unfold qSlashHebrew at hF
 refine calls_of Tryz.func48 rfl ⟨((vP g0) :: un 23 ([])).toArray, []⟩ (by kernel_rfl) (gx_seq (fun K1 hK2 => gx_region (gx_k (.int .u8 0) w0 (gx_k (.bool false) w0 (gx_nil (gx_thenN (hK2 _ _ (gx_seq (fun K3 hK4 => ?_)))))))))
 refine gdst (fun w => St (foots [plE g0 zA zc A0_1 c0_1 zb zg zl zn p0_4 p0_5 p0_6 p0_7 p0_8 p0_9 p0_10 p0_11]) w0 w [plE g0 zA zc A0_1 c0_1 zb zg zl zn p0_4 p0_5 p0_6 p0_7 p0_8 p0_9 p0_10 p0_11]) 22 ?_
 have hS6 := hS0.drew
 generalize w0.drew = w5 at hS6 ⊢
 refine gv1 0 4 (vP g0) rfl hS6 (gv1 1 5 (vP g0) rfl hS6 (gv1 2 6 (vP g0) rfl hS6 (gv1 3 7 (vP g0) rfl hS6 (gv1 4 8 (vP g0) rfl hS6 (gv1 5 9 (vQ g0 3) rfl hS6 (gu1 6 10 (i6 zn) rfl hS6 (fun w hSw => rl1 (hSw.box 0 rfl 3 rfl)) (gdR 7 ⟨some 11, _, _, _, _, _⟩ rfl (st_made .u8 5 [24] hS6 (by show 1 ≤ 1000000000; decide) (by kernel_rfl)) ?_)))))))
 rintro _ w7 ⟨rfl, hS8⟩
 have hS8 : St _ _ w7 [plE g0 zA zc A0_1 c0_1 zb zg zl zn p0_4 p0_5 p0_6 p0_7 p0_8 p0_9 p0_10 p0_11, rowE .u8 5 (some ⟨w5.heap.size, 0, none⟩) 1 ([24])] := hS8
 refine ⟨(hS8.pick [0] rfl rfl), ?_⟩
 have hP9 : St _ _ w7 ([plE g0 zA zc A0_1 c0_1 zb zg zl zn p0_4 p0_5 p0_6 p0_7 p0_8 p0_9 p0_10 p0_11] ++ [rowE .u8 5 (some ⟨w5.heap.size, 0, none⟩) 1 ([24])]) := hS8
 obtain ⟨b11, hc10, hF⟩ := bind_in hF
 try dsimp only at hF
 refine gdC 8 ⟨some 12, _, _, _, _, _⟩ _ rfl (by kernel_rfl) (pIs_ok N zb zg zl zn p0_4 p0_5 p0_6 p0_7 p0_8 p0_9 p0_10 p0_11 zn ([24]) g0 zA zc A0_1 c0_1 (some ⟨w5.heap.size, 0, none⟩) 1 _ hc10 w7 (hP9.vwA hv0_0) (hP9.vwA hv0_1) (hP9.vwB 0 rfl) hP9.part) ?_
 rintro _ w12 ⟨rfl, hT14⟩
 have hS13 : St _ _ w12 [rowE .u8 5 (some ⟨w5.heap.size, 0, none⟩) 1 ([24]), plE g0 zA zc A0_1 c0_1 zb zg zl zn p0_4 p0_5 p0_6 p0_7 p0_8 p0_9 p0_10 p0_11] := hP9.lendN _ hT14
 refine ⟨(hS13.pick [1] rfl rfl), gv1 9 13 (.bool b11) rfl (hS13.pick [1] rfl rfl) ?_⟩
 rcases b11 with _ | _
 try dsimp only at hF
 refine gz1 10 14 rfl (hS13.pick [1] rfl rfl) (gz1 11 15 rfl (hS13.pick [1] rfl rfl) (gz1 12 16 rfl (hS13.pick [1] rfl rfl) (gz1 13 17 rfl (hS13.pick [1] rfl rfl) (gz1 14 18 rfl (hS13.pick [1] rfl rfl) (gz1 15 19 rfl (hS13.pick [1] rfl rfl) (gz1 16 20 rfl (hS13.pick [1] rfl rfl) (gz1 17 21 rfl (hS13.pick [1] rfl rfl) ?_)))))))
 refine gz1 18 22 rfl (hS13.pick [1] rfl rfl) (gv1 19 23 (.bool false) rfl (hS13.pick [1] rfl rfl) (gv1 20 2 (.int .u8 0) rfl (hS13.pick [1] rfl rfl) (gv1 21 3 (.bool false) rfl (hS13.pick [1] rfl rfl) (gd_done (by kernel_rfl) (gx_thenN (hK4 _ _ (gx_ret ?_)))))))
 obtain rfl := sj hF
 exact gxF (.tuple #[.int .u8 0, .bool false]) ⟨_, rfl, rfl, (hS13.pick [1] rfl rfl)⟩
 try dsimp only at hF
 refine gv1 10 14 (vP g0) rfl (hS13.pick [1] rfl rfl) (gv1 11 15 (vP g0) rfl (hS13.pick [1] rfl rfl) (gv1 12 16 (vP g0) rfl (hS13.pick [1] rfl rfl) (gv1 13 17 (vP g0) rfl (hS13.pick [1] rfl rfl) (gv1 14 18 (vP g0) rfl (hS13.pick [1] rfl rfl) (gv1 15 19 (vQ g0 4) rfl (hS13.pick [1] rfl rfl) (gu1 16 20 (i6 p0_4) rfl (hS13.pick [1] rfl rfl) (fun w hSw => rl1 (hSw.box 0 rfl 4 rfl)) (gdR 17 ⟨some 21, _, _, _, _, _⟩ rfl (st_made .u8 5 [28] hS13 (by show 1 ≤ 1000000000; decide) (by kernel_rfl)) ?_)))))))
 rintro _ w15 ⟨rfl, hS16⟩
 have hS16 : St _ _ w15 [rowE .u8 5 (some ⟨w5.heap.size, 0, none⟩) 1 ([24]), plE g0 zA zc A0_1 c0_1 zb zg zl zn p0_4 p0_5 p0_6 p0_7 p0_8 p0_9 p0_10 p0_11, rowE .u8 5 (some ⟨w12.heap.size, 0, none⟩) 1 ([28])] := hS16
 refine ⟨(hS16.pick [1] rfl rfl), ?_⟩
 have hP17 : St _ _ w15 ([plE g0 zA zc A0_1 c0_1 zb zg zl zn p0_4 p0_5 p0_6 p0_7 p0_8 p0_9 p0_10 p0_11] ++ [rowE .u8 5 (some ⟨w5.heap.size, 0, none⟩) 1 ([24]), rowE .u8 5 (some ⟨w12.heap.size, 0, none⟩) 1 ([28])]) := hS16.pick [1, 0, 2] rfl rfl
 obtain ⟨b19, hc18, hF⟩ := bind_in hF
 try dsimp only at hF
 refine gdC 18 ⟨some 22, _, _, _, _, _⟩ _ rfl (by kernel_rfl) (pIs_ok N zb zg zl zn p0_4 p0_5 p0_6 p0_7 p0_8 p0_9 p0_10 p0_11 p0_4 ([28]) g0 zA zc A0_1 c0_1 (some ⟨w12.heap.size, 0, none⟩) 1 _ hc18 w15 (hP17.vwA hv0_0) (hP17.vwA hv0_1) (hP17.vwB 1 rfl) hP17.part) ?_
 rintro _ w20 ⟨rfl, hT22⟩
 have hS21 : St _ _ w20 [rowE .u8 5 (some ⟨w5.heap.size, 0, none⟩) 1 ([24]), rowE .u8 5 (some ⟨w12.heap.size, 0, none⟩) 1 ([28]), plE g0 zA zc A0_1 c0_1 zb zg zl zn p0_4 p0_5 p0_6 p0_7 p0_8 p0_9 p0_10 p0_11] := hP17.lendN _ hT22
 refine ⟨(hS21.pick [2] rfl rfl), gv1 19 23 (.bool b19) rfl (hS21.pick [2] rfl rfl) (gv1 20 2 (.int .u8 0) rfl (hS21.pick [2] rfl rfl) (gv1 21 3 (.bool b19) rfl (hS21.pick [2] rfl rfl) (gd_done (by kernel_rfl) (gx_thenN (hK4 _ _ (gx_ret ?_))))))⟩
 obtain rfl := sj hF
 exact gxF (.tuple #[.int .u8 0, .bool b19]) ⟨_, rfl, rfl, (hS21.pick [2] rfl rfl)⟩
def qAheadOfEllipsis (N : Nat) (zb : List Int) (zg : List Int) (zl : Int) (zn : Int) (p0_4 : Int) (p0_5 : Int) (p0_6 : Int) (p0_7 : Int) (p0_8 : Int) (p0_9 : Bool) (p0_10 : Bool) (p0_11 : Bool) : Option (Int × Bool) :=
 ((pIs N zb zg zl zn p0_4 p0_5 p0_6 p0_7 p0_8 p0_9 p0_10 p0_11 p0_4 ([17])).bind fun b11 => some (0, b11))
def qAheadOfEllipsis_R (zb : List Int) (zg : List Int) (zl : Int) (zn : Int) (p0_4 : Int) (p0_5 : Int) (p0_6 : Int) (p0_7 : Int) (p0_8 : Int) (p0_9 : Bool) (p0_10 : Bool) (p0_11 : Bool) (g0 : Nat) (zA : Option Addr) (zc : Nat) (A0_1 : Option Addr) (c0_1 : Nat) (r : Int × Bool) (w0 : World) (v : Value) (w : World) : Prop := v = .tuple #[.int .u8 r.1, .bool r.2] ∧ St (foots [plE g0 zA zc A0_1 c0_1 zb zg zl zn p0_4 p0_5 p0_6 p0_7 p0_8 p0_9 p0_10 p0_11]) w0 w [plE g0 zA zc A0_1 c0_1 zb zg zl zn p0_4 p0_5 p0_6 p0_7 p0_8 p0_9 p0_10 p0_11]
theorem qAheadOfEllipsis_ok (N : Nat) (zb : List Int) (zg : List Int) (zl : Int) (zn : Int) (p0_4 : Int) (p0_5 : Int) (p0_6 : Int) (p0_7 : Int) (p0_8 : Int) (p0_9 : Bool) (p0_10 : Bool) (p0_11 : Bool) (g0 : Nat) (zA : Option Addr) (zc : Nat) (A0_1 : Option Addr) (c0_1 : Nat) (r : Int × Bool) (hF : qAheadOfEllipsis N zb zg zl zn p0_4 p0_5 p0_6 p0_7 p0_8 p0_9 p0_10 p0_11 = some r) (w0 : World) (hv0_0 : Vw (foots [plE g0 zA zc A0_1 c0_1 zb zg zl zn p0_4 p0_5 p0_6 p0_7 p0_8 p0_9 p0_10 p0_11]) .i32 w0 zA zc zb) (hv0_1 : Vw (foots [plE g0 zA zc A0_1 c0_1 zb zg zl zn p0_4 p0_5 p0_6 p0_7 p0_8 p0_9 p0_10 p0_11]) .u8 w0 A0_1 c0_1 zg) (hl : St (foots [plE g0 zA zc A0_1 c0_1 zb zg zl zn p0_4 p0_5 p0_6 p0_7 p0_8 p0_9 p0_10 p0_11]) w0 w0 [plE g0 zA zc A0_1 c0_1 zb zg zl zn p0_4 p0_5 p0_6 p0_7 p0_8 p0_9 p0_10 p0_11]) :
  Calls Tryz.prog 49 #[.pointer (some ⟨g0, 0, none⟩)] w0 fun e w => ∃ v, e = .returned v ∧ qAheadOfEllipsis_R zb zg zl zn p0_4 p0_5 p0_6 p0_7 p0_8 p0_9 p0_10 p0_11 g0 zA zc A0_1 c0_1 r w0 v w := by
 have hS0 := hl
 unfold qAheadOfEllipsis at hF
 refine calls_of Tryz.func49 rfl ⟨((vP g0) :: un 12 ([])).toArray, []⟩ (by kernel_rfl) (gx_seq (fun K1 hK2 => gx_region (gx_k (.int .u8 0) w0 (gx_k (.bool false) w0 (gx_nil (gx_thenN (hK2 _ _ (gx_seq (fun K3 hK4 => ?_)))))))))
 refine gdst (fun w => St (foots [plE g0 zA zc A0_1 c0_1 zb zg zl zn p0_4 p0_5 p0_6 p0_7 p0_8 p0_9 p0_10 p0_11]) w0 w [plE g0 zA zc A0_1 c0_1 zb zg zl zn p0_4 p0_5 p0_6 p0_7 p0_8 p0_9 p0_10 p0_11]) 11 ?_
 have hS6 := hS0.drew
 generalize w0.drew = w5 at hS6 ⊢
 refine gv1 0 4 (vP g0) rfl hS6 (gv1 1 5 (vP g0) rfl hS6 (gv1 2 6 (vP g0) rfl hS6 (gv1 3 7 (vP g0) rfl hS6 (gv1 4 8 (vP g0) rfl hS6 (gv1 5 9 (vQ g0 4) rfl hS6 (gu1 6 10 (i6 p0_4) rfl hS6 (fun w hSw => rl1 (hSw.box 0 rfl 4 rfl)) (gdR 7 ⟨some 11, _, _, _, _, _⟩ rfl (st_made .u8 5 [17] hS6 (by show 1 ≤ 1000000000; decide) (by kernel_rfl)) ?_)))))))
 rintro _ w7 ⟨rfl, hS8⟩
 have hS8 : St _ _ w7 [plE g0 zA zc A0_1 c0_1 zb zg zl zn p0_4 p0_5 p0_6 p0_7 p0_8 p0_9 p0_10 p0_11, rowE .u8 5 (some ⟨w5.heap.size, 0, none⟩) 1 ([17])] := hS8
 refine ⟨(hS8.pick [0] rfl rfl), ?_⟩
 have hP9 : St _ _ w7 ([plE g0 zA zc A0_1 c0_1 zb zg zl zn p0_4 p0_5 p0_6 p0_7 p0_8 p0_9 p0_10 p0_11] ++ [rowE .u8 5 (some ⟨w5.heap.size, 0, none⟩) 1 ([17])]) := hS8
 obtain ⟨b11, hc10, hF⟩ := bind_in hF
 try dsimp only at hF
 refine gdC 8 ⟨some 12, _, _, _, _, _⟩ _ rfl (by kernel_rfl) (pIs_ok N zb zg zl zn p0_4 p0_5 p0_6 p0_7 p0_8 p0_9 p0_10 p0_11 p0_4 ([17]) g0 zA zc A0_1 c0_1 (some ⟨w5.heap.size, 0, none⟩) 1 _ hc10 w7 (hP9.vwA hv0_0) (hP9.vwA hv0_1) (hP9.vwB 0 rfl) hP9.part) ?_
 rintro _ w12 ⟨rfl, hT14⟩
 have hS13 : St _ _ w12 [rowE .u8 5 (some ⟨w5.heap.size, 0, none⟩) 1 ([17]), plE g0 zA zc A0_1 c0_1 zb zg zl zn p0_4 p0_5 p0_6 p0_7 p0_8 p0_9 p0_10 p0_11] := hP9.lendN _ hT14
 refine ⟨(hS13.pick [1] rfl rfl), gv1 9 2 (.int .u8 0) rfl (hS13.pick [1] rfl rfl) (gv1 10 3 (.bool b11) rfl (hS13.pick [1] rfl rfl) (gd_done (by kernel_rfl) (gx_thenN (hK4 _ _ (gx_ret ?_)))))⟩
 obtain rfl := sj hF
 exact gxF (.tuple #[.int .u8 0, .bool b11]) ⟨_, rfl, rfl, (hS13.pick [1] rfl rfl)⟩
def qLetterDigit (N : Nat) (zb : List Int) (zg : List Int) (zl : Int) (zn : Int) (p0_4 : Int) (p0_5 : Int) (p0_6 : Int) (p0_7 : Int) (p0_8 : Int) (p0_9 : Bool) (p0_10 : Bool) (p0_11 : Bool) : Option (Int × Bool) :=
 ((((pLetter N zb zg zl zn p0_4 p0_5 p0_6 p0_7 p0_8 p0_9 p0_10 p0_11 zn).bind fun b18 => (match b18 with | true => ((pDigit N zb zg zl zn p0_4 p0_5 p0_6 p0_7 p0_8 p0_9 p0_10 p0_11 p0_4).bind fun b24 => some (b24)) | false => some (false))) : Option (Bool)).bind fun b10 => (match b10 with | true => some (0, true) | false => ((pDigit N zb zg zl zn p0_4 p0_5 p0_6 p0_7 p0_8 p0_9 p0_10 p0_11 zn).bind fun b30 => (match b30 with | true => ((pLetter N zb zg zl zn p0_4 p0_5 p0_6 p0_7 p0_8 p0_9 p0_10 p0_11 p0_4).bind fun b36 => some (0, b36)) | false => some (0, false)))))
def qLetterDigit_R (zb : List Int) (zg : List Int) (zl : Int) (zn : Int) (p0_4 : Int) (p0_5 : Int) (p0_6 : Int) (p0_7 : Int) (p0_8 : Int) (p0_9 : Bool) (p0_10 : Bool) (p0_11 : Bool) (g0 : Nat) (zA : Option Addr) (zc : Nat) (A0_1 : Option Addr) (c0_1 : Nat) (r : Int × Bool) (w0 : World) (v : Value) (w : World) : Prop := v = .tuple #[.int .u8 r.1, .bool r.2] ∧ St (foots [plE g0 zA zc A0_1 c0_1 zb zg zl zn p0_4 p0_5 p0_6 p0_7 p0_8 p0_9 p0_10 p0_11]) w0 w [plE g0 zA zc A0_1 c0_1 zb zg zl zn p0_4 p0_5 p0_6 p0_7 p0_8 p0_9 p0_10 p0_11]
theorem qLetterDigit_ok (N : Nat) (zb : List Int) (zg : List Int) (zl : Int) (zn : Int) (p0_4 : Int) (p0_5 : Int) (p0_6 : Int) (p0_7 : Int) (p0_8 : Int) (p0_9 : Bool) (p0_10 : Bool) (p0_11 : Bool) (g0 : Nat) (zA : Option Addr) (zc : Nat) (A0_1 : Option Addr) (c0_1 : Nat) (r : Int × Bool) (hF : qLetterDigit N zb zg zl zn p0_4 p0_5 p0_6 p0_7 p0_8 p0_9 p0_10 p0_11 = some r) (w0 : World) (hv0_0 : Vw (foots [plE g0 zA zc A0_1 c0_1 zb zg zl zn p0_4 p0_5 p0_6 p0_7 p0_8 p0_9 p0_10 p0_11]) .i32 w0 zA zc zb) (hv0_1 : Vw (foots [plE g0 zA zc A0_1 c0_1 zb zg zl zn p0_4 p0_5 p0_6 p0_7 p0_8 p0_9 p0_10 p0_11]) .u8 w0 A0_1 c0_1 zg) (hl : St (foots [plE g0 zA zc A0_1 c0_1 zb zg zl zn p0_4 p0_5 p0_6 p0_7 p0_8 p0_9 p0_10 p0_11]) w0 w0 [plE g0 zA zc A0_1 c0_1 zb zg zl zn p0_4 p0_5 p0_6 p0_7 p0_8 p0_9 p0_10 p0_11]) :
  Calls Tryz.prog 50 #[.pointer (some ⟨g0, 0, none⟩)] w0 fun e w => ∃ v, e = .returned v ∧ qLetterDigit_R zb zg zl zn p0_4 p0_5 p0_6 p0_7 p0_8 p0_9 p0_10 p0_11 g0 zA zc A0_1 c0_1 r w0 v w := by
 have hS0 := hl
 unfold qLetterDigit at hF
 refine calls_of Tryz.func50 rfl ⟨((vP g0) :: un 41 ([])).toArray, []⟩ (by kernel_rfl) (gx_seq (fun K1 hK2 => gx_region (gx_k (.int .u8 0) w0 (gx_k (.bool false) w0 (gx_nil (gx_thenN (hK2 _ _ (gx_seq (fun K3 hK4 => ?_)))))))))
 refine gdst (fun w => St (foots [plE g0 zA zc A0_1 c0_1 zb zg zl zn p0_4 p0_5 p0_6 p0_7 p0_8 p0_9 p0_10 p0_11]) w0 w [plE g0 zA zc A0_1 c0_1 zb zg zl zn p0_4 p0_5 p0_6 p0_7 p0_8 p0_9 p0_10 p0_11]) 40 ?_
 have hS6 := hS0.drew
 generalize w0.drew = w5 at hS6 ⊢
 refine gv1 0 4 (vP g0) rfl hS6 (gv1 1 5 (vP g0) rfl hS6 (gv1 2 6 (vP g0) rfl hS6 (gv1 3 7 (vP g0) rfl hS6 (gv1 4 8 (vP g0) rfl hS6 (gv1 5 9 (vQ g0 3) rfl hS6 (gu1 6 10 (i6 zn) rfl hS6 (fun w hSw => rl1 (hSw.box 0 rfl 3 rfl)) ?_))))))
 obtain ⟨c11, hE12, hO13⟩ := bind_in hF
 refine gd_mid (fun a w => ∃ (b10 : Bool), selfA (fun u9 => ⟨((vP g0) :: undef :: (.int .u8 0) :: (.bool false) :: (vP g0) :: (vP g0) :: (vP g0) :: (vP g0) :: (vP g0) :: (vQ g0 3) :: (i6 zn) :: dd u9 11 10 ((.bool b10) :: un 20 ([]))).toArray, []⟩) a ∧ b10 = c11 ∧ St (foots [plE g0 zA zc A0_1 c0_1 zb zg zl zn p0_4 p0_5 p0_6 p0_7 p0_8 p0_9 p0_10 p0_11]) w0 w [plE g0 zA zc A0_1 c0_1 zb zg zl zn p0_4 p0_5 p0_6 p0_7 p0_8 p0_9 p0_10 p0_11]) 22 #[true, true, true, true, true, true, true, true, true, true, true, true, true, true, true, true, true, true, false, false, false, false, false, false, false, false, false, false, false, false, false, false, false, false, false, false, false, false, false, false] ?_ ?_
 rintro _ w7 ⟨b10, hq14, rfl, hS8⟩
 obtain ⟨u9, rfl⟩ := selfA_u hq14
 try dsimp only at hO13
 refine gv1 18 22 (.bool b10) rfl hS8 ?_
 rcases b10 with _ | _
 try dsimp only at hO13
 refine gv1 19 23 (vP g0) rfl hS8 (gv1 20 24 (vP g0) rfl hS8 (gv1 21 25 (vP g0) rfl hS8 (gv1 22 26 (vP g0) rfl hS8 (gv1 23 27 (vP g0) rfl hS8 (gv1 24 28 (vQ g0 3) rfl hS8 (gu1 25 29 (i6 zn) rfl hS8 (fun w hSw => rl1 (hSw.box 0 rfl 3 rfl)) ?_))))))
 have hP28 : St _ _ w7 ([plE g0 zA zc A0_1 c0_1 zb zg zl zn p0_4 p0_5 p0_6 p0_7 p0_8 p0_9 p0_10 p0_11] ++ []) := hS8
 obtain ⟨b30, hc29, hO13⟩ := bind_in hO13
 try dsimp only at hO13
 refine gdC 26 ⟨some 30, _, _, _, _, _⟩ _ rfl (by kernel_rfl) (pDigit_ok N zb zg zl zn p0_4 p0_5 p0_6 p0_7 p0_8 p0_9 p0_10 p0_11 zn g0 zA zc A0_1 c0_1 _ hc29 w7 (hP28.vwA hv0_0) (hP28.vwA hv0_1) hP28.part) ?_
 rintro _ w31 ⟨rfl, hT33⟩
 have hS32 : St _ _ w31 [plE g0 zA zc A0_1 c0_1 zb zg zl zn p0_4 p0_5 p0_6 p0_7 p0_8 p0_9 p0_10 p0_11] := hP28.lendN _ hT33
 refine ⟨hS32, gv1 27 31 (.bool b30) rfl hS32 ?_⟩
 rcases b30 with _ | _
 try dsimp only at hO13
 refine gz1 28 32 rfl hS32 (gz1 29 33 rfl hS32 (gz1 30 34 rfl hS32 (gz1 31 35 rfl hS32 (gz1 32 36 rfl hS32 (gz1 33 37 rfl hS32 (gz1 34 38 rfl hS32 (gz1 35 39 rfl hS32 ?_)))))))
 refine gv1 36 40 (.bool false) rfl hS32 (gv1 37 41 (.bool false) rfl hS32 (gv1 38 2 (.int .u8 0) rfl hS32 (gv1 39 3 (.bool false) rfl hS32 (gd_done (by kernel_rfl) (gx_thenN (hK4 _ _ (gx_ret ?_)))))))
 obtain rfl := sj hO13
 exact gxF (.tuple #[.int .u8 0, .bool false]) ⟨_, rfl, rfl, hS32⟩
 try dsimp only at hO13
 refine gv1 28 32 (vP g0) rfl hS32 (gv1 29 33 (vP g0) rfl hS32 (gv1 30 34 (vP g0) rfl hS32 (gv1 31 35 (vP g0) rfl hS32 (gv1 32 36 (vP g0) rfl hS32 (gv1 33 37 (vQ g0 4) rfl hS32 (gu1 34 38 (i6 p0_4) rfl hS32 (fun w hSw => rl1 (hSw.box 0 rfl 4 rfl)) ?_))))))
 have hP34 : St _ _ w31 ([plE g0 zA zc A0_1 c0_1 zb zg zl zn p0_4 p0_5 p0_6 p0_7 p0_8 p0_9 p0_10 p0_11] ++ []) := hS32
 obtain ⟨b36, hc35, hO13⟩ := bind_in hO13
 try dsimp only at hO13
 refine gdC 35 ⟨some 39, _, _, _, _, _⟩ _ rfl (by kernel_rfl) (pLetter_ok N zb zg zl zn p0_4 p0_5 p0_6 p0_7 p0_8 p0_9 p0_10 p0_11 p0_4 g0 zA zc A0_1 c0_1 _ hc35 w31 (hP34.vwA hv0_0) (hP34.vwA hv0_1) hP34.part) ?_
 rintro _ w37 ⟨rfl, hT39⟩
 have hS38 : St _ _ w37 [plE g0 zA zc A0_1 c0_1 zb zg zl zn p0_4 p0_5 p0_6 p0_7 p0_8 p0_9 p0_10 p0_11] := hP34.lendN _ hT39
 refine ⟨hS38, gv1 36 40 (.bool b36) rfl hS38 (gv1 37 41 (.bool b36) rfl hS38 (gv1 38 2 (.int .u8 0) rfl hS38 (gv1 39 3 (.bool b36) rfl hS38 (gd_done (by kernel_rfl) (gx_thenN (hK4 _ _ ?_))))))⟩
 refine gx_ret ?_
 obtain rfl := sj hO13
 exact gxF (.tuple #[.int .u8 0, .bool b36]) ⟨_, rfl, rfl, hS38⟩
 try dsimp only at hO13
 refine gz1 19 23 rfl hS8 (gz1 20 24 rfl hS8 (gz1 21 25 rfl hS8 (gz1 22 26 rfl hS8 (gz1 23 27 rfl hS8 (gz1 24 28 rfl hS8 (gz1 25 29 rfl hS8 (gz1 26 30 rfl hS8 ?_)))))))
 refine gz1 27 31 rfl hS8 (gz1 28 32 rfl hS8 (gz1 29 33 rfl hS8 (gz1 30 34 rfl hS8 (gz1 31 35 rfl hS8 (gz1 32 36 rfl hS8 (gz1 33 37 rfl hS8 (gz1 34 38 rfl hS8 ?_)))))))
 refine gz1 35 39 rfl hS8 (gz1 36 40 rfl hS8 (gv1 37 41 (.bool true) rfl hS8 (gv1 38 2 (.int .u8 0) rfl hS8 (gv1 39 3 (.bool true) rfl hS8 (gd_done (by kernel_rfl) (gx_thenN (hK4 _ _ ?_)))))))
 refine gx_ret ?_
 obtain rfl := sj hO13
 exact gxF (.tuple #[.int .u8 0, .bool true]) ⟨_, rfl, rfl, hS8⟩
 intro hK15
 have hP16 : St _ _ w5 ([plE g0 zA zc A0_1 c0_1 zb zg zl zn p0_4 p0_5 p0_6 p0_7 p0_8 p0_9 p0_10 p0_11] ++ []) := hS6
 obtain ⟨b18, hc17, hE12⟩ := bind_in hE12
 try dsimp only at hE12
 refine gdC 7 ⟨some 11, _, _, _, _, _⟩ _ rfl (by kernel_rfl) (pLetter_ok N zb zg zl zn p0_4 p0_5 p0_6 p0_7 p0_8 p0_9 p0_10 p0_11 zn g0 zA zc A0_1 c0_1 _ hc17 w5 (hP16.vwA hv0_0) (hP16.vwA hv0_1) hP16.part) ?_
 rintro _ w19 ⟨rfl, hT21⟩
 have hS20 : St _ _ w19 [plE g0 zA zc A0_1 c0_1 zb zg zl zn p0_4 p0_5 p0_6 p0_7 p0_8 p0_9 p0_10 p0_11] := hP16.lendN _ hT21
 refine ⟨hS20, gv1 8 12 (.bool b18) rfl hS20 ?_⟩
 rcases b18 with _ | _
 try dsimp only at hE12
 refine gz1 9 13 rfl hS20 (gz1 10 14 rfl hS20 (gz1 11 15 rfl hS20 (gz1 12 16 rfl hS20 (gz1 13 17 rfl hS20 (gz1 14 18 rfl hS20 (gz1 15 19 rfl hS20 (gz1 16 20 rfl hS20 ?_)))))))
 refine gv1 17 21 (.bool false) rfl hS20 ?_
 exact gd_to hK15 (by kernel_rfl) ⟨false, selfA_i (by kernel_rfl), (sj hE12), hS20⟩
 try dsimp only at hE12
 refine gv1 9 13 (vP g0) rfl hS20 (gv1 10 14 (vP g0) rfl hS20 (gv1 11 15 (vP g0) rfl hS20 (gv1 12 16 (vP g0) rfl hS20 (gv1 13 17 (vP g0) rfl hS20 (gv1 14 18 (vQ g0 4) rfl hS20 (gu1 15 19 (i6 p0_4) rfl hS20 (fun w hSw => rl1 (hSw.box 0 rfl 4 rfl)) ?_))))))
 have hP22 : St _ _ w19 ([plE g0 zA zc A0_1 c0_1 zb zg zl zn p0_4 p0_5 p0_6 p0_7 p0_8 p0_9 p0_10 p0_11] ++ []) := hS20
 obtain ⟨b24, hc23, hE12⟩ := bind_in hE12
 try dsimp only at hE12
 refine gdC 16 ⟨some 20, _, _, _, _, _⟩ _ rfl (by kernel_rfl) (pDigit_ok N zb zg zl zn p0_4 p0_5 p0_6 p0_7 p0_8 p0_9 p0_10 p0_11 p0_4 g0 zA zc A0_1 c0_1 _ hc23 w19 (hP22.vwA hv0_0) (hP22.vwA hv0_1) hP22.part) ?_
 rintro _ w25 ⟨rfl, hT27⟩
 have hS26 : St _ _ w25 [plE g0 zA zc A0_1 c0_1 zb zg zl zn p0_4 p0_5 p0_6 p0_7 p0_8 p0_9 p0_10 p0_11] := hP22.lendN _ hT27
 refine ⟨hS26, gv1 17 21 (.bool b24) rfl hS26 ?_⟩
 exact gd_to hK15 (by kernel_rfl) ⟨b24, selfA_i (by kernel_rfl), (sj hE12), hS26⟩
def qSignIdeograph (N : Nat) (zb : List Int) (zg : List Int) (zl : Int) (zn : Int) (p0_4 : Int) (p0_5 : Int) (p0_6 : Int) (p0_7 : Int) (p0_8 : Int) (p0_9 : Bool) (p0_10 : Bool) (p0_11 : Bool) : Option (Int × Bool) :=
 ((((pIs N zb zg zl zn p0_4 p0_5 p0_6 p0_7 p0_8 p0_9 p0_10 p0_11 zn ([26])).bind fun b20 => (match b20 with | true => ((pPict N zb zg zl zn p0_4 p0_5 p0_6 p0_7 p0_8 p0_9 p0_10 p0_11 p0_4).bind fun b26 => some (b26)) | false => some (false))) : Option (Bool)).bind fun b12 => (match b12 with | true => some (0, true) | false => ((pPict N zb zg zl zn p0_4 p0_5 p0_6 p0_7 p0_8 p0_9 p0_10 p0_11 zn).bind fun b32 => (match b32 with | true => ((pIs N zb zg zl zn p0_4 p0_5 p0_6 p0_7 p0_8 p0_9 p0_10 p0_11 p0_4 ([25])).bind fun b40 => some (0, b40)) | false => some (0, false)))))
def qSignIdeograph_R (zb : List Int) (zg : List Int) (zl : Int) (zn : Int) (p0_4 : Int) (p0_5 : Int) (p0_6 : Int) (p0_7 : Int) (p0_8 : Int) (p0_9 : Bool) (p0_10 : Bool) (p0_11 : Bool) (g0 : Nat) (zA : Option Addr) (zc : Nat) (A0_1 : Option Addr) (c0_1 : Nat) (r : Int × Bool) (w0 : World) (v : Value) (w : World) : Prop := v = .tuple #[.int .u8 r.1, .bool r.2] ∧ St (foots [plE g0 zA zc A0_1 c0_1 zb zg zl zn p0_4 p0_5 p0_6 p0_7 p0_8 p0_9 p0_10 p0_11]) w0 w [plE g0 zA zc A0_1 c0_1 zb zg zl zn p0_4 p0_5 p0_6 p0_7 p0_8 p0_9 p0_10 p0_11]
theorem qSignIdeograph_ok (N : Nat) (zb : List Int) (zg : List Int) (zl : Int) (zn : Int) (p0_4 : Int) (p0_5 : Int) (p0_6 : Int) (p0_7 : Int) (p0_8 : Int) (p0_9 : Bool) (p0_10 : Bool) (p0_11 : Bool) (g0 : Nat) (zA : Option Addr) (zc : Nat) (A0_1 : Option Addr) (c0_1 : Nat) (r : Int × Bool) (hF : qSignIdeograph N zb zg zl zn p0_4 p0_5 p0_6 p0_7 p0_8 p0_9 p0_10 p0_11 = some r) (w0 : World) (hv0_0 : Vw (foots [plE g0 zA zc A0_1 c0_1 zb zg zl zn p0_4 p0_5 p0_6 p0_7 p0_8 p0_9 p0_10 p0_11]) .i32 w0 zA zc zb) (hv0_1 : Vw (foots [plE g0 zA zc A0_1 c0_1 zb zg zl zn p0_4 p0_5 p0_6 p0_7 p0_8 p0_9 p0_10 p0_11]) .u8 w0 A0_1 c0_1 zg) (hl : St (foots [plE g0 zA zc A0_1 c0_1 zb zg zl zn p0_4 p0_5 p0_6 p0_7 p0_8 p0_9 p0_10 p0_11]) w0 w0 [plE g0 zA zc A0_1 c0_1 zb zg zl zn p0_4 p0_5 p0_6 p0_7 p0_8 p0_9 p0_10 p0_11]) :
  Calls Tryz.prog 51 #[.pointer (some ⟨g0, 0, none⟩)] w0 fun e w => ∃ v, e = .returned v ∧ qSignIdeograph_R zb zg zl zn p0_4 p0_5 p0_6 p0_7 p0_8 p0_9 p0_10 p0_11 g0 zA zc A0_1 c0_1 r w0 v w := by
 have hS0 := hl
 unfold qSignIdeograph at hF
 refine calls_of Tryz.func51 rfl ⟨((vP g0) :: un 43 ([])).toArray, []⟩ (by kernel_rfl) (gx_seq (fun K1 hK2 => gx_region (gx_k (.int .u8 0) w0 (gx_k (.bool false) w0 (gx_nil (gx_thenN (hK2 _ _ (gx_seq (fun K3 hK4 => ?_)))))))))
 refine gdst (fun w => St (foots [plE g0 zA zc A0_1 c0_1 zb zg zl zn p0_4 p0_5 p0_6 p0_7 p0_8 p0_9 p0_10 p0_11]) w0 w [plE g0 zA zc A0_1 c0_1 zb zg zl zn p0_4 p0_5 p0_6 p0_7 p0_8 p0_9 p0_10 p0_11]) 42 ?_
 have hS6 := hS0.drew
 generalize w0.drew = w5 at hS6 ⊢
 refine gv1 0 4 (vP g0) rfl hS6 (gv1 1 5 (vP g0) rfl hS6 (gv1 2 6 (vP g0) rfl hS6 (gv1 3 7 (vP g0) rfl hS6 (gv1 4 8 (vP g0) rfl hS6 (gv1 5 9 (vQ g0 3) rfl hS6 (gu1 6 10 (i6 zn) rfl hS6 (fun w hSw => rl1 (hSw.box 0 rfl 3 rfl)) (gdR 7 ⟨some 11, _, _, _, _, _⟩ rfl (st_made .u8 5 [26] hS6 (by show 1 ≤ 1000000000; decide) (by kernel_rfl)) ?_)))))))
 rintro _ w7 ⟨rfl, hS8⟩
 have hS8 : St _ _ w7 [plE g0 zA zc A0_1 c0_1 zb zg zl zn p0_4 p0_5 p0_6 p0_7 p0_8 p0_9 p0_10 p0_11, rowE .u8 5 (some ⟨w5.heap.size, 0, none⟩) 1 ([26])] := hS8
 refine ⟨(hS8.pick [0] rfl rfl), ?_⟩
 obtain ⟨c13, hE14, hO15⟩ := bind_in hF
 refine gd_mid (fun a w => ∃ (b12 : Bool), selfA (fun u11 => ⟨((vP g0) :: undef :: (.int .u8 0) :: (.bool false) :: (vP g0) :: (vP g0) :: (vP g0) :: (vP g0) :: (vP g0) :: (vQ g0 3) :: (i6 zn) :: dd u11 11 11 ((.bool b12) :: un 21 ([]))).toArray, []⟩) a ∧ b12 = c13 ∧ St (foots [plE g0 zA zc A0_1 c0_1 zb zg zl zn p0_4 p0_5 p0_6 p0_7 p0_8 p0_9 p0_10 p0_11]) w0 w [plE g0 zA zc A0_1 c0_1 zb zg zl zn p0_4 p0_5 p0_6 p0_7 p0_8 p0_9 p0_10 p0_11]) 23 #[true, true, true, true, true, true, true, true, true, true, true, true, true, true, true, true, true, true, true, false, false, false, false, false, false, false, false, false, false, false, false, false, false, false, false, false, false, false, false, false, false, false] ?_ ?_
 rintro _ w9 ⟨b12, hq16, rfl, hS10⟩
 obtain ⟨u11, rfl⟩ := selfA_u hq16
 try dsimp only at hO15
 refine gv1 19 23 (.bool b12) rfl hS10 ?_
 rcases b12 with _ | _
 try dsimp only at hO15
 refine gv1 20 24 (vP g0) rfl hS10 (gv1 21 25 (vP g0) rfl hS10 (gv1 22 26 (vP g0) rfl hS10 (gv1 23 27 (vP g0) rfl hS10 (gv1 24 28 (vP g0) rfl hS10 (gv1 25 29 (vQ g0 3) rfl hS10 (gu1 26 30 (i6 zn) rfl hS10 (fun w hSw => rl1 (hSw.box 0 rfl 3 rfl)) ?_))))))
 have hP30 : St _ _ w9 ([plE g0 zA zc A0_1 c0_1 zb zg zl zn p0_4 p0_5 p0_6 p0_7 p0_8 p0_9 p0_10 p0_11] ++ []) := hS10
 obtain ⟨b32, hc31, hO15⟩ := bind_in hO15
 try dsimp only at hO15
 refine gdC 27 ⟨some 31, _, _, _, _, _⟩ _ rfl (by kernel_rfl) (pPict_ok N zb zg zl zn p0_4 p0_5 p0_6 p0_7 p0_8 p0_9 p0_10 p0_11 zn g0 zA zc A0_1 c0_1 _ hc31 w9 (hP30.vwA hv0_0) (hP30.vwA hv0_1) hP30.part) ?_
 rintro _ w33 ⟨rfl, hT35⟩
 have hS34 : St _ _ w33 [plE g0 zA zc A0_1 c0_1 zb zg zl zn p0_4 p0_5 p0_6 p0_7 p0_8 p0_9 p0_10 p0_11] := hP30.lendN _ hT35
 refine ⟨hS34, gv1 28 32 (.bool b32) rfl hS34 ?_⟩
 rcases b32 with _ | _
 try dsimp only at hO15
 refine gz1 29 33 rfl hS34 (gz1 30 34 rfl hS34 (gz1 31 35 rfl hS34 (gz1 32 36 rfl hS34 (gz1 33 37 rfl hS34 (gz1 34 38 rfl hS34 (gz1 35 39 rfl hS34 (gz1 36 40 rfl hS34 ?_)))))))
 refine gz1 37 41 rfl hS34 (gv1 38 42 (.bool false) rfl hS34 (gv1 39 43 (.bool false) rfl hS34 (gv1 40 2 (.int .u8 0) rfl hS34 (gv1 41 3 (.bool false) rfl hS34 (gd_done (by kernel_rfl) (gx_thenN (hK4 _ _ ?_)))))))
 refine gx_ret ?_
 obtain rfl := sj hO15
 exact gxF (.tuple #[.int .u8 0, .bool false]) ⟨_, rfl, rfl, hS34⟩
 try dsimp only at hO15
 refine gv1 29 33 (vP g0) rfl hS34 (gv1 30 34 (vP g0) rfl hS34 (gv1 31 35 (vP g0) rfl hS34 (gv1 32 36 (vP g0) rfl hS34 (gv1 33 37 (vP g0) rfl hS34 (gv1 34 38 (vQ g0 4) rfl hS34 (gu1 35 39 (i6 p0_4) rfl hS34 (fun w hSw => rl1 (hSw.box 0 rfl 4 rfl)) (gdR 36 ⟨some 40, _, _, _, _, _⟩ rfl (st_made .u8 5 [25] hS34 (by show 1 ≤ 1000000000; decide) (by kernel_rfl)) ?_)))))))
 rintro _ w36 ⟨rfl, hS37⟩
 have hS37 : St _ _ w36 [plE g0 zA zc A0_1 c0_1 zb zg zl zn p0_4 p0_5 p0_6 p0_7 p0_8 p0_9 p0_10 p0_11, rowE .u8 5 (some ⟨w33.heap.size, 0, none⟩) 1 ([25])] := hS37
 refine ⟨(hS37.pick [0] rfl rfl), ?_⟩
 have hP38 : St _ _ w36 ([plE g0 zA zc A0_1 c0_1 zb zg zl zn p0_4 p0_5 p0_6 p0_7 p0_8 p0_9 p0_10 p0_11] ++ [rowE .u8 5 (some ⟨w33.heap.size, 0, none⟩) 1 ([25])]) := hS37
 obtain ⟨b40, hc39, hO15⟩ := bind_in hO15
 try dsimp only at hO15
 refine gdC 37 ⟨some 41, _, _, _, _, _⟩ _ rfl (by kernel_rfl) (pIs_ok N zb zg zl zn p0_4 p0_5 p0_6 p0_7 p0_8 p0_9 p0_10 p0_11 p0_4 ([25]) g0 zA zc A0_1 c0_1 (some ⟨w33.heap.size, 0, none⟩) 1 _ hc39 w36 (hP38.vwA hv0_0) (hP38.vwA hv0_1) (hP38.vwB 0 rfl) hP38.part) ?_
 rintro _ w41 ⟨rfl, hT43⟩
 have hS42 : St _ _ w41 [rowE .u8 5 (some ⟨w33.heap.size, 0, none⟩) 1 ([25]), plE g0 zA zc A0_1 c0_1 zb zg zl zn p0_4 p0_5 p0_6 p0_7 p0_8 p0_9 p0_10 p0_11] := hP38.lendN _ hT43
 refine ⟨(hS42.pick [1] rfl rfl), gv1 38 42 (.bool b40) rfl (hS42.pick [1] rfl rfl) (gv1 39 43 (.bool b40) rfl (hS42.pick [1] rfl rfl) (gv1 40 2 (.int .u8 0) rfl (hS42.pick [1] rfl rfl) (gv1 41 3 (.bool b40) rfl (hS42.pick [1] rfl rfl) (gd_done (by kernel_rfl) (gx_thenN (hK4 _ _ ?_))))))⟩
 refine gx_ret ?_
 obtain rfl := sj hO15
 exact gxF (.tuple #[.int .u8 0, .bool b40]) ⟨_, rfl, rfl, (hS42.pick [1] rfl rfl)⟩
 try dsimp only at hO15
 refine gz1 20 24 rfl hS10 (gz1 21 25 rfl hS10 (gz1 22 26 rfl hS10 (gz1 23 27 rfl hS10 (gz1 24 28 rfl hS10 (gz1 25 29 rfl hS10 (gz1 26 30 rfl hS10 (gz1 27 31 rfl hS10 ?_)))))))
 refine gz1 28 32 rfl hS10 (gz1 29 33 rfl hS10 (gz1 30 34 rfl hS10 (gz1 31 35 rfl hS10 (gz1 32 36 rfl hS10 (gz1 33 37 rfl hS10 (gz1 34 38 rfl hS10 (gz1 35 39 rfl hS10 ?_)))))))
 refine gz1 36 40 rfl hS10 (gz1 37 41 rfl hS10 (gz1 38 42 rfl hS10 (gv1 39 43 (.bool true) rfl hS10 (gv1 40 2 (.int .u8 0) rfl hS10 (gv1 41 3 (.bool true) rfl hS10 (gd_done (by kernel_rfl) (gx_thenN ?_)))))))
 refine hK4 _ _ (gx_ret ?_)
 obtain rfl := sj hO15
 exact gxF (.tuple #[.int .u8 0, .bool true]) ⟨_, rfl, rfl, hS10⟩
 intro hK17
 have hP18 : St _ _ w7 ([plE g0 zA zc A0_1 c0_1 zb zg zl zn p0_4 p0_5 p0_6 p0_7 p0_8 p0_9 p0_10 p0_11] ++ [rowE .u8 5 (some ⟨w5.heap.size, 0, none⟩) 1 ([26])]) := hS8
 obtain ⟨b20, hc19, hE14⟩ := bind_in hE14
 try dsimp only at hE14
 refine gdC 8 ⟨some 12, _, _, _, _, _⟩ _ rfl (by kernel_rfl) (pIs_ok N zb zg zl zn p0_4 p0_5 p0_6 p0_7 p0_8 p0_9 p0_10 p0_11 zn ([26]) g0 zA zc A0_1 c0_1 (some ⟨w5.heap.size, 0, none⟩) 1 _ hc19 w7 (hP18.vwA hv0_0) (hP18.vwA hv0_1) (hP18.vwB 0 rfl) hP18.part) ?_
 rintro _ w21 ⟨rfl, hT23⟩
 have hS22 : St _ _ w21 [rowE .u8 5 (some ⟨w5.heap.size, 0, none⟩) 1 ([26]), plE g0 zA zc A0_1 c0_1 zb zg zl zn p0_4 p0_5 p0_6 p0_7 p0_8 p0_9 p0_10 p0_11] := hP18.lendN _ hT23
 refine ⟨(hS22.pick [1] rfl rfl), gv1 9 13 (.bool b20) rfl (hS22.pick [1] rfl rfl) ?_⟩
 rcases b20 with _ | _
 try dsimp only at hE14
 refine gz1 10 14 rfl (hS22.pick [1] rfl rfl) (gz1 11 15 rfl (hS22.pick [1] rfl rfl) (gz1 12 16 rfl (hS22.pick [1] rfl rfl) (gz1 13 17 rfl (hS22.pick [1] rfl rfl) (gz1 14 18 rfl (hS22.pick [1] rfl rfl) (gz1 15 19 rfl (hS22.pick [1] rfl rfl) (gz1 16 20 rfl (hS22.pick [1] rfl rfl) (gz1 17 21 rfl (hS22.pick [1] rfl rfl) ?_)))))))
 refine gv1 18 22 (.bool false) rfl (hS22.pick [1] rfl rfl) ?_
 exact gd_to hK17 (by kernel_rfl) ⟨false, selfA_i (by kernel_rfl), (sj hE14), (hS22.pick [1] rfl rfl)⟩
 try dsimp only at hE14
 refine gv1 10 14 (vP g0) rfl (hS22.pick [1] rfl rfl) (gv1 11 15 (vP g0) rfl (hS22.pick [1] rfl rfl) (gv1 12 16 (vP g0) rfl (hS22.pick [1] rfl rfl) (gv1 13 17 (vP g0) rfl (hS22.pick [1] rfl rfl) (gv1 14 18 (vP g0) rfl (hS22.pick [1] rfl rfl) (gv1 15 19 (vQ g0 4) rfl (hS22.pick [1] rfl rfl) (gu1 16 20 (i6 p0_4) rfl (hS22.pick [1] rfl rfl) (fun w hSw => rl1 (hSw.box 0 rfl 4 rfl)) ?_))))))
 have hP24 : St _ _ w21 ([plE g0 zA zc A0_1 c0_1 zb zg zl zn p0_4 p0_5 p0_6 p0_7 p0_8 p0_9 p0_10 p0_11] ++ [rowE .u8 5 (some ⟨w5.heap.size, 0, none⟩) 1 ([26])]) := hS22.pick [1, 0] rfl rfl
 obtain ⟨b26, hc25, hE14⟩ := bind_in hE14
 try dsimp only at hE14
 refine gdC 17 ⟨some 21, _, _, _, _, _⟩ _ rfl (by kernel_rfl) (pPict_ok N zb zg zl zn p0_4 p0_5 p0_6 p0_7 p0_8 p0_9 p0_10 p0_11 p0_4 g0 zA zc A0_1 c0_1 _ hc25 w21 (hP24.vwA hv0_0) (hP24.vwA hv0_1) hP24.part) ?_
 rintro _ w27 ⟨rfl, hT29⟩
 have hS28 : St _ _ w27 [rowE .u8 5 (some ⟨w5.heap.size, 0, none⟩) 1 ([26]), plE g0 zA zc A0_1 c0_1 zb zg zl zn p0_4 p0_5 p0_6 p0_7 p0_8 p0_9 p0_10 p0_11] := hP24.lendN _ hT29
 refine ⟨(hS28.pick [1] rfl rfl), gv1 18 22 (.bool b26) rfl (hS28.pick [1] rfl rfl) ?_⟩
 exact gd_to hK17 (by kernel_rfl) ⟨b26, selfA_i (by kernel_rfl), (sj hE14), (hS28.pick [1] rfl rfl)⟩
def qSignLetter (N : Nat) (zb : List Int) (zg : List Int) (zl : Int) (zn : Int) (p0_4 : Int) (p0_5 : Int) (p0_6 : Int) (p0_7 : Int) (p0_8 : Int) (p0_9 : Bool) (p0_10 : Bool) (p0_11 : Bool) : Option (Int × Bool) :=
 ((((pSign N zb zg zl zn p0_4 p0_5 p0_6 p0_7 p0_8 p0_9 p0_10 p0_11 zn).bind fun b18 => (match b18 with | true => ((pLetter N zb zg zl zn p0_4 p0_5 p0_6 p0_7 p0_8 p0_9 p0_10 p0_11 p0_4).bind fun b24 => some (b24)) | false => some (false))) : Option (Bool)).bind fun b10 => (match b10 with | true => some (0, true) | false => ((pLetter N zb zg zl zn p0_4 p0_5 p0_6 p0_7 p0_8 p0_9 p0_10 p0_11 zn).bind fun b30 => (match b30 with | true => ((pSign N zb zg zl zn p0_4 p0_5 p0_6 p0_7 p0_8 p0_9 p0_10 p0_11 p0_4).bind fun b36 => some (0, b36)) | false => some (0, false)))))
def qSignLetter_R (zb : List Int) (zg : List Int) (zl : Int) (zn : Int) (p0_4 : Int) (p0_5 : Int) (p0_6 : Int) (p0_7 : Int) (p0_8 : Int) (p0_9 : Bool) (p0_10 : Bool) (p0_11 : Bool) (g0 : Nat) (zA : Option Addr) (zc : Nat) (A0_1 : Option Addr) (c0_1 : Nat) (r : Int × Bool) (w0 : World) (v : Value) (w : World) : Prop := v = .tuple #[.int .u8 r.1, .bool r.2] ∧ St (foots [plE g0 zA zc A0_1 c0_1 zb zg zl zn p0_4 p0_5 p0_6 p0_7 p0_8 p0_9 p0_10 p0_11]) w0 w [plE g0 zA zc A0_1 c0_1 zb zg zl zn p0_4 p0_5 p0_6 p0_7 p0_8 p0_9 p0_10 p0_11]
theorem qSignLetter_ok (N : Nat) (zb : List Int) (zg : List Int) (zl : Int) (zn : Int) (p0_4 : Int) (p0_5 : Int) (p0_6 : Int) (p0_7 : Int) (p0_8 : Int) (p0_9 : Bool) (p0_10 : Bool) (p0_11 : Bool) (g0 : Nat) (zA : Option Addr) (zc : Nat) (A0_1 : Option Addr) (c0_1 : Nat) (r : Int × Bool) (hF : qSignLetter N zb zg zl zn p0_4 p0_5 p0_6 p0_7 p0_8 p0_9 p0_10 p0_11 = some r) (w0 : World) (hv0_0 : Vw (foots [plE g0 zA zc A0_1 c0_1 zb zg zl zn p0_4 p0_5 p0_6 p0_7 p0_8 p0_9 p0_10 p0_11]) .i32 w0 zA zc zb) (hv0_1 : Vw (foots [plE g0 zA zc A0_1 c0_1 zb zg zl zn p0_4 p0_5 p0_6 p0_7 p0_8 p0_9 p0_10 p0_11]) .u8 w0 A0_1 c0_1 zg) (hl : St (foots [plE g0 zA zc A0_1 c0_1 zb zg zl zn p0_4 p0_5 p0_6 p0_7 p0_8 p0_9 p0_10 p0_11]) w0 w0 [plE g0 zA zc A0_1 c0_1 zb zg zl zn p0_4 p0_5 p0_6 p0_7 p0_8 p0_9 p0_10 p0_11]) :
  Calls Tryz.prog 52 #[.pointer (some ⟨g0, 0, none⟩)] w0 fun e w => ∃ v, e = .returned v ∧ qSignLetter_R zb zg zl zn p0_4 p0_5 p0_6 p0_7 p0_8 p0_9 p0_10 p0_11 g0 zA zc A0_1 c0_1 r w0 v w := by
 have hS0 := hl
 unfold qSignLetter at hF
 refine calls_of Tryz.func52 rfl ⟨((vP g0) :: un 41 ([])).toArray, []⟩ (by kernel_rfl) (gx_seq (fun K1 hK2 => gx_region (gx_k (.int .u8 0) w0 (gx_k (.bool false) w0 (gx_nil (gx_thenN (hK2 _ _ (gx_seq (fun K3 hK4 => ?_)))))))))
 refine gdst (fun w => St (foots [plE g0 zA zc A0_1 c0_1 zb zg zl zn p0_4 p0_5 p0_6 p0_7 p0_8 p0_9 p0_10 p0_11]) w0 w [plE g0 zA zc A0_1 c0_1 zb zg zl zn p0_4 p0_5 p0_6 p0_7 p0_8 p0_9 p0_10 p0_11]) 40 ?_
 have hS6 := hS0.drew
 generalize w0.drew = w5 at hS6 ⊢
 refine gv1 0 4 (vP g0) rfl hS6 (gv1 1 5 (vP g0) rfl hS6 (gv1 2 6 (vP g0) rfl hS6 (gv1 3 7 (vP g0) rfl hS6 (gv1 4 8 (vP g0) rfl hS6 (gv1 5 9 (vQ g0 3) rfl hS6 (gu1 6 10 (i6 zn) rfl hS6 (fun w hSw => rl1 (hSw.box 0 rfl 3 rfl)) ?_))))))
 obtain ⟨c11, hE12, hO13⟩ := bind_in hF
 refine gd_mid (fun a w => ∃ (b10 : Bool), selfA (fun u9 => ⟨((vP g0) :: undef :: (.int .u8 0) :: (.bool false) :: (vP g0) :: (vP g0) :: (vP g0) :: (vP g0) :: (vP g0) :: (vQ g0 3) :: (i6 zn) :: dd u9 11 10 ((.bool b10) :: un 20 ([]))).toArray, []⟩) a ∧ b10 = c11 ∧ St (foots [plE g0 zA zc A0_1 c0_1 zb zg zl zn p0_4 p0_5 p0_6 p0_7 p0_8 p0_9 p0_10 p0_11]) w0 w [plE g0 zA zc A0_1 c0_1 zb zg zl zn p0_4 p0_5 p0_6 p0_7 p0_8 p0_9 p0_10 p0_11]) 22 #[true, true, true, true, true, true, true, true, true, true, true, true, true, true, true, true, true, true, false, false, false, false, false, false, false, false, false, false, false, false, false, false, false, false, false, false, false, false, false, false] ?_ ?_
 rintro _ w7 ⟨b10, hq14, rfl, hS8⟩
 obtain ⟨u9, rfl⟩ := selfA_u hq14
 try dsimp only at hO13
 refine gv1 18 22 (.bool b10) rfl hS8 ?_
 rcases b10 with _ | _
 try dsimp only at hO13
 refine gv1 19 23 (vP g0) rfl hS8 (gv1 20 24 (vP g0) rfl hS8 (gv1 21 25 (vP g0) rfl hS8 (gv1 22 26 (vP g0) rfl hS8 (gv1 23 27 (vP g0) rfl hS8 (gv1 24 28 (vQ g0 3) rfl hS8 (gu1 25 29 (i6 zn) rfl hS8 (fun w hSw => rl1 (hSw.box 0 rfl 3 rfl)) ?_))))))
 have hP28 : St _ _ w7 ([plE g0 zA zc A0_1 c0_1 zb zg zl zn p0_4 p0_5 p0_6 p0_7 p0_8 p0_9 p0_10 p0_11] ++ []) := hS8
 obtain ⟨b30, hc29, hO13⟩ := bind_in hO13
 try dsimp only at hO13
 refine gdC 26 ⟨some 30, _, _, _, _, _⟩ _ rfl (by kernel_rfl) (pLetter_ok N zb zg zl zn p0_4 p0_5 p0_6 p0_7 p0_8 p0_9 p0_10 p0_11 zn g0 zA zc A0_1 c0_1 _ hc29 w7 (hP28.vwA hv0_0) (hP28.vwA hv0_1) hP28.part) ?_
 rintro _ w31 ⟨rfl, hT33⟩
 have hS32 : St _ _ w31 [plE g0 zA zc A0_1 c0_1 zb zg zl zn p0_4 p0_5 p0_6 p0_7 p0_8 p0_9 p0_10 p0_11] := hP28.lendN _ hT33
 refine ⟨hS32, gv1 27 31 (.bool b30) rfl hS32 ?_⟩
 rcases b30 with _ | _
 try dsimp only at hO13
 refine gz1 28 32 rfl hS32 (gz1 29 33 rfl hS32 (gz1 30 34 rfl hS32 (gz1 31 35 rfl hS32 (gz1 32 36 rfl hS32 (gz1 33 37 rfl hS32 (gz1 34 38 rfl hS32 (gz1 35 39 rfl hS32 ?_)))))))
 refine gv1 36 40 (.bool false) rfl hS32 (gv1 37 41 (.bool false) rfl hS32 (gv1 38 2 (.int .u8 0) rfl hS32 (gv1 39 3 (.bool false) rfl hS32 (gd_done (by kernel_rfl) (gx_thenN (hK4 _ _ (gx_ret ?_)))))))
 obtain rfl := sj hO13
 exact gxF (.tuple #[.int .u8 0, .bool false]) ⟨_, rfl, rfl, hS32⟩
 try dsimp only at hO13
 refine gv1 28 32 (vP g0) rfl hS32 (gv1 29 33 (vP g0) rfl hS32 (gv1 30 34 (vP g0) rfl hS32 (gv1 31 35 (vP g0) rfl hS32 (gv1 32 36 (vP g0) rfl hS32 (gv1 33 37 (vQ g0 4) rfl hS32 (gu1 34 38 (i6 p0_4) rfl hS32 (fun w hSw => rl1 (hSw.box 0 rfl 4 rfl)) ?_))))))
 have hP34 : St _ _ w31 ([plE g0 zA zc A0_1 c0_1 zb zg zl zn p0_4 p0_5 p0_6 p0_7 p0_8 p0_9 p0_10 p0_11] ++ []) := hS32
 obtain ⟨b36, hc35, hO13⟩ := bind_in hO13
 try dsimp only at hO13
 refine gdC 35 ⟨some 39, _, _, _, _, _⟩ _ rfl (by kernel_rfl) (pSign_ok N zb zg zl zn p0_4 p0_5 p0_6 p0_7 p0_8 p0_9 p0_10 p0_11 p0_4 g0 zA zc A0_1 c0_1 _ hc35 w31 (hP34.vwA hv0_0) (hP34.vwA hv0_1) hP34.part) ?_
 rintro _ w37 ⟨rfl, hT39⟩
 have hS38 : St _ _ w37 [plE g0 zA zc A0_1 c0_1 zb zg zl zn p0_4 p0_5 p0_6 p0_7 p0_8 p0_9 p0_10 p0_11] := hP34.lendN _ hT39
 refine ⟨hS38, gv1 36 40 (.bool b36) rfl hS38 (gv1 37 41 (.bool b36) rfl hS38 (gv1 38 2 (.int .u8 0) rfl hS38 (gv1 39 3 (.bool b36) rfl hS38 (gd_done (by kernel_rfl) (gx_thenN (hK4 _ _ ?_))))))⟩
 refine gx_ret ?_
 obtain rfl := sj hO13
 exact gxF (.tuple #[.int .u8 0, .bool b36]) ⟨_, rfl, rfl, hS38⟩
 try dsimp only at hO13
 refine gz1 19 23 rfl hS8 (gz1 20 24 rfl hS8 (gz1 21 25 rfl hS8 (gz1 22 26 rfl hS8 (gz1 23 27 rfl hS8 (gz1 24 28 rfl hS8 (gz1 25 29 rfl hS8 (gz1 26 30 rfl hS8 ?_)))))))
 refine gz1 27 31 rfl hS8 (gz1 28 32 rfl hS8 (gz1 29 33 rfl hS8 (gz1 30 34 rfl hS8 (gz1 31 35 rfl hS8 (gz1 32 36 rfl hS8 (gz1 33 37 rfl hS8 (gz1 34 38 rfl hS8 ?_)))))))
 refine gz1 35 39 rfl hS8 (gz1 36 40 rfl hS8 (gv1 37 41 (.bool true) rfl hS8 (gv1 38 2 (.int .u8 0) rfl hS8 (gv1 39 3 (.bool true) rfl hS8 (gd_done (by kernel_rfl) (gx_thenN (hK4 _ _ ?_)))))))
 refine gx_ret ?_
 obtain rfl := sj hO13
 exact gxF (.tuple #[.int .u8 0, .bool true]) ⟨_, rfl, rfl, hS8⟩
 intro hK15
 have hP16 : St _ _ w5 ([plE g0 zA zc A0_1 c0_1 zb zg zl zn p0_4 p0_5 p0_6 p0_7 p0_8 p0_9 p0_10 p0_11] ++ []) := hS6
 obtain ⟨b18, hc17, hE12⟩ := bind_in hE12
 try dsimp only at hE12
 refine gdC 7 ⟨some 11, _, _, _, _, _⟩ _ rfl (by kernel_rfl) (pSign_ok N zb zg zl zn p0_4 p0_5 p0_6 p0_7 p0_8 p0_9 p0_10 p0_11 zn g0 zA zc A0_1 c0_1 _ hc17 w5 (hP16.vwA hv0_0) (hP16.vwA hv0_1) hP16.part) ?_
 rintro _ w19 ⟨rfl, hT21⟩
 have hS20 : St _ _ w19 [plE g0 zA zc A0_1 c0_1 zb zg zl zn p0_4 p0_5 p0_6 p0_7 p0_8 p0_9 p0_10 p0_11] := hP16.lendN _ hT21
 refine ⟨hS20, gv1 8 12 (.bool b18) rfl hS20 ?_⟩
 rcases b18 with _ | _
 try dsimp only at hE12
 refine gz1 9 13 rfl hS20 (gz1 10 14 rfl hS20 (gz1 11 15 rfl hS20 (gz1 12 16 rfl hS20 (gz1 13 17 rfl hS20 (gz1 14 18 rfl hS20 (gz1 15 19 rfl hS20 (gz1 16 20 rfl hS20 ?_)))))))
 refine gv1 17 21 (.bool false) rfl hS20 ?_
 exact gd_to hK15 (by kernel_rfl) ⟨false, selfA_i (by kernel_rfl), (sj hE12), hS20⟩
 try dsimp only at hE12
 refine gv1 9 13 (vP g0) rfl hS20 (gv1 10 14 (vP g0) rfl hS20 (gv1 11 15 (vP g0) rfl hS20 (gv1 12 16 (vP g0) rfl hS20 (gv1 13 17 (vP g0) rfl hS20 (gv1 14 18 (vQ g0 4) rfl hS20 (gu1 15 19 (i6 p0_4) rfl hS20 (fun w hSw => rl1 (hSw.box 0 rfl 4 rfl)) ?_))))))
 have hP22 : St _ _ w19 ([plE g0 zA zc A0_1 c0_1 zb zg zl zn p0_4 p0_5 p0_6 p0_7 p0_8 p0_9 p0_10 p0_11] ++ []) := hS20
 obtain ⟨b24, hc23, hE12⟩ := bind_in hE12
 try dsimp only at hE12
 refine gdC 16 ⟨some 20, _, _, _, _, _⟩ _ rfl (by kernel_rfl) (pLetter_ok N zb zg zl zn p0_4 p0_5 p0_6 p0_7 p0_8 p0_9 p0_10 p0_11 p0_4 g0 zA zc A0_1 c0_1 _ hc23 w19 (hP22.vwA hv0_0) (hP22.vwA hv0_1) hP22.part) ?_
 rintro _ w25 ⟨rfl, hT27⟩
 have hS26 : St _ _ w25 [plE g0 zA zc A0_1 c0_1 zb zg zl zn p0_4 p0_5 p0_6 p0_7 p0_8 p0_9 p0_10 p0_11] := hP22.lendN _ hT27
 refine ⟨hS26, gv1 17 21 (.bool b24) rfl hS26 ?_⟩
 exact gd_to hK15 (by kernel_rfl) ⟨b24, selfA_i (by kernel_rfl), (sj hE12), hS26⟩
end Go.Proofs.YtdbimchiecdkoaaGreat
