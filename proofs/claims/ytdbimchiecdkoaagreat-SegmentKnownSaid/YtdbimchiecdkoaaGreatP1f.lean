/-
  The rules, walked.
-/
import Derived.Test.YtdbimchiecdkoaaGreatPJ
namespace Go.Proofs.YtdbimchiecdkoaaGreat
open Go Go.RowKit
set_option maxRecDepth 100000
set_option maxHeartbeats 4000000
set_option linter.unusedVariables false
def qNumberSign (N : Nat) (zb : List Int) (zg : List Int) (zl : Int) (zn : Int) (p0_4 : Int) (p0_5 : Int) (p0_6 : Int) (p0_7 : Int) (p0_8 : Int) (p0_9 : Bool) (p0_10 : Bool) (p0_11 : Bool) : Option (Int × Bool) :=
 ((pSign N zb zg zl zn p0_4 p0_5 p0_6 p0_7 p0_8 p0_9 p0_10 p0_11 p0_4).bind fun b9 => (match b9 with | true => (match p0_10 with | true => some (0, true) | false => (match p0_9 with | true => ((pIs N zb zg zl zn p0_4 p0_5 p0_6 p0_7 p0_8 true false p0_11 zn ([21, 20])).bind fun b17 => some (0, b17)) | false => some (0, false))) | false => some (0, false)))
def qNumberSign_R (zb : List Int) (zg : List Int) (zl : Int) (zn : Int) (p0_4 : Int) (p0_5 : Int) (p0_6 : Int) (p0_7 : Int) (p0_8 : Int) (p0_9 : Bool) (p0_10 : Bool) (p0_11 : Bool) (g0 : Nat) (zA : Option Addr) (zc : Nat) (A0_1 : Option Addr) (c0_1 : Nat) (r : Int × Bool) (w0 : World) (v : Value) (w : World) : Prop := v = .tuple #[.int .u8 r.1, .bool r.2] ∧ St (foots [plE g0 zA zc A0_1 c0_1 zb zg zl zn p0_4 p0_5 p0_6 p0_7 p0_8 p0_9 p0_10 p0_11]) w0 w [plE g0 zA zc A0_1 c0_1 zb zg zl zn p0_4 p0_5 p0_6 p0_7 p0_8 p0_9 p0_10 p0_11]
theorem qNumberSign_ok (N : Nat) (zb : List Int) (zg : List Int) (zl : Int) (zn : Int) (p0_4 : Int) (p0_5 : Int) (p0_6 : Int) (p0_7 : Int) (p0_8 : Int) (p0_9 : Bool) (p0_10 : Bool) (p0_11 : Bool) (g0 : Nat) (zA : Option Addr) (zc : Nat) (A0_1 : Option Addr) (c0_1 : Nat) (r : Int × Bool) (hF : qNumberSign N zb zg zl zn p0_4 p0_5 p0_6 p0_7 p0_8 p0_9 p0_10 p0_11 = some r) (w0 : World) (hv0_0 : Vw (foots [plE g0 zA zc A0_1 c0_1 zb zg zl zn p0_4 p0_5 p0_6 p0_7 p0_8 p0_9 p0_10 p0_11]) .i32 w0 zA zc zb) (hv0_1 : Vw (foots [plE g0 zA zc A0_1 c0_1 zb zg zl zn p0_4 p0_5 p0_6 p0_7 p0_8 p0_9 p0_10 p0_11]) .u8 w0 A0_1 c0_1 zg) (hl : St (foots [plE g0 zA zc A0_1 c0_1 zb zg zl zn p0_4 p0_5 p0_6 p0_7 p0_8 p0_9 p0_10 p0_11]) w0 w0 [plE g0 zA zc A0_1 c0_1 zb zg zl zn p0_4 p0_5 p0_6 p0_7 p0_8 p0_9 p0_10 p0_11]) :
  Calls Tryz.prog 53 #[.pointer (some ⟨g0, 0, none⟩)] w0 fun e w => ∃ v, e = .returned v ∧ qNumberSign_R zb zg zl zn p0_4 p0_5 p0_6 p0_7 p0_8 p0_9 p0_10 p0_11 g0 zA zc A0_1 c0_1 r w0 v w := by
 have hS0 := hl
 unfold qNumberSign at hF
 refine calls_of Tryz.func53 rfl ⟨((vP g0) :: un 34 ([])).toArray, []⟩ (by kernel_rfl) (gx_seq (fun K1 hK2 => gx_region (gx_k (.int .u8 0) w0 (gx_k (.bool false) w0 (gx_nil (gx_thenN (hK2 _ _ (gx_seq (fun K3 hK4 => ?_)))))))))
 refine gdst (fun w => St (foots [plE g0 zA zc A0_1 c0_1 zb zg zl zn p0_4 p0_5 p0_6 p0_7 p0_8 p0_9 p0_10 p0_11]) w0 w [plE g0 zA zc A0_1 c0_1 zb zg zl zn p0_4 p0_5 p0_6 p0_7 p0_8 p0_9 p0_10 p0_11]) 33 ?_
 have hS6 := hS0.drew
 generalize w0.drew = w5 at hS6 ⊢
 refine gv1 0 4 (vP g0) rfl hS6 (gv1 1 5 (vP g0) rfl hS6 (gv1 2 6 (vP g0) rfl hS6 (gv1 3 7 (vP g0) rfl hS6 (gv1 4 8 (vP g0) rfl hS6 (gv1 5 9 (vQ g0 4) rfl hS6 (gu1 6 10 (i6 p0_4) rfl hS6 (fun w hSw => rl1 (hSw.box 0 rfl 4 rfl)) ?_))))))
 have hP7 : St _ _ w5 ([plE g0 zA zc A0_1 c0_1 zb zg zl zn p0_4 p0_5 p0_6 p0_7 p0_8 p0_9 p0_10 p0_11] ++ []) := hS6
 obtain ⟨b9, hc8, hF⟩ := bind_in hF
 try dsimp only at hF
 refine gdC 7 ⟨some 11, _, _, _, _, _⟩ _ rfl (by kernel_rfl) (pSign_ok N zb zg zl zn p0_4 p0_5 p0_6 p0_7 p0_8 p0_9 p0_10 p0_11 p0_4 g0 zA zc A0_1 c0_1 _ hc8 w5 (hP7.vwA hv0_0) (hP7.vwA hv0_1) hP7.part) ?_
 rintro _ w10 ⟨rfl, hT12⟩
 have hS11 : St _ _ w10 [plE g0 zA zc A0_1 c0_1 zb zg zl zn p0_4 p0_5 p0_6 p0_7 p0_8 p0_9 p0_10 p0_11] := hP7.lendN _ hT12
 refine ⟨hS11, gv1 8 12 (.bool b9) rfl hS11 ?_⟩
 rcases b9 with _ | _
 try dsimp only at hF
 refine gz1 9 13 rfl hS11 (gz1 10 14 rfl hS11 (gz1 11 15 rfl hS11 (gz1 12 16 rfl hS11 (gz1 13 17 rfl hS11 (gz1 14 18 rfl hS11 (gz1 15 19 rfl hS11 (gz1 16 20 rfl hS11 ?_)))))))
 refine gz1 17 21 rfl hS11 (gz1 18 22 rfl hS11 (gz1 19 23 rfl hS11 (gz1 20 24 rfl hS11 (gz1 21 25 rfl hS11 (gz1 22 26 rfl hS11 (gz1 23 27 rfl hS11 (gz1 24 28 rfl hS11 ?_)))))))
 refine gz1 25 29 rfl hS11 (gz1 26 30 rfl hS11 (gz1 27 31 rfl hS11 (gz1 28 32 rfl hS11 (gz1 29 33 rfl hS11 (gv1 30 34 (.bool false) rfl hS11 (gv1 31 2 (.int .u8 0) rfl hS11 (gv1 32 3 (.bool false) rfl hS11 ?_)))))))
 refine gd_done (by kernel_rfl) (gx_thenN (hK4 _ _ (gx_ret ?_)))
 obtain rfl := sj hF
 exact gxF (.tuple #[.int .u8 0, .bool false]) ⟨_, rfl, rfl, hS11⟩
 try dsimp only at hF
 refine gv1 9 13 (vP g0) rfl hS11 (gv1 10 14 (vP g0) rfl hS11 (gv1 11 15 (vQ g0 10) rfl hS11 (gu1 12 16 (.bool p0_10) rfl hS11 (fun w hSw => rl1 (hSw.box 0 rfl 10 rfl)) (gv1 13 17 (.bool p0_10) rfl hS11 ?_))))
 rcases p0_10 with _ | _
 try dsimp only at hF
 refine gv1 14 18 (vP g0) rfl hS11 (gv1 15 19 (vP g0) rfl hS11 (gv1 16 20 (vQ g0 9) rfl hS11 (gu1 17 21 (.bool p0_9) rfl hS11 (fun w hSw => rl1 (hSw.box 0 rfl 9 rfl)) (gv1 18 22 (.bool p0_9) rfl hS11 ?_))))
 rcases p0_9 with _ | _
 try dsimp only at hF
 refine gz1 19 23 rfl hS11 (gz1 20 24 rfl hS11 (gz1 21 25 rfl hS11 (gz1 22 26 rfl hS11 (gz1 23 27 rfl hS11 (gz1 24 28 rfl hS11 (gz1 25 29 rfl hS11 (gz1 26 30 rfl hS11 ?_)))))))
 refine gz1 27 31 rfl hS11 (gv1 28 32 (.bool false) rfl hS11 (gv1 29 33 (.bool false) rfl hS11 (gv1 30 34 (.bool false) rfl hS11 (gv1 31 2 (.int .u8 0) rfl hS11 (gv1 32 3 (.bool false) rfl hS11 (gd_done (by kernel_rfl) (gx_thenN ?_)))))))
 refine hK4 _ _ (gx_ret ?_)
 obtain rfl := sj hF
 exact gxF (.tuple #[.int .u8 0, .bool false]) ⟨_, rfl, rfl, hS11⟩
 try dsimp only at hF
 refine gv1 19 23 (vP g0) rfl hS11 (gv1 20 24 (vP g0) rfl hS11 (gv1 21 25 (vP g0) rfl hS11 (gv1 22 26 (vP g0) rfl hS11 (gv1 23 27 (vP g0) rfl hS11 (gv1 24 28 (vQ g0 3) rfl hS11 (gu1 25 29 (i6 zn) rfl hS11 (fun w hSw => rl1 (hSw.box 0 rfl 3 rfl)) (gdR 26 ⟨some 30, _, _, _, _, _⟩ rfl (st_made .u8 5 [21, 20] hS11 (by show 2 ≤ 1000000000; decide) (by kernel_rfl)) ?_)))))))
 rintro _ w13 ⟨rfl, hS14⟩
 have hS14 : St _ _ w13 [boxE g0 [.slice zA zb.length zc, .slice A0_1 zg.length c0_1, i6 zl, i6 zn, i6 p0_4, i6 p0_5, i6 p0_6, i6 p0_7, i6 p0_8, .bool true, .bool false, .bool p0_11] 42, rowE .u8 5 (some ⟨w10.heap.size, 0, none⟩) 2 ([21, 20])] := hS14
 refine ⟨(hS14.pick [0] rfl rfl), ?_⟩
 have hP15 : St _ _ w13 ([boxE g0 [.slice zA zb.length zc, .slice A0_1 zg.length c0_1, i6 zl, i6 zn, i6 p0_4, i6 p0_5, i6 p0_6, i6 p0_7, i6 p0_8, .bool true, .bool false, .bool p0_11] 42] ++ [rowE .u8 5 (some ⟨w10.heap.size, 0, none⟩) 2 ([21, 20])]) := hS14
 obtain ⟨b17, hc16, hF⟩ := bind_in hF
 try dsimp only at hF
 refine gdC 27 ⟨some 31, _, _, _, _, _⟩ _ rfl (by kernel_rfl) (pIs_ok N zb zg zl zn p0_4 p0_5 p0_6 p0_7 p0_8 true false p0_11 zn ([21, 20]) g0 zA zc A0_1 c0_1 (some ⟨w10.heap.size, 0, none⟩) 2 _ hc16 w13 (hP15.vwA hv0_0) (hP15.vwA hv0_1) (hP15.vwB 0 rfl) hP15.part) ?_
 rintro _ w18 ⟨rfl, hT20⟩
 have hS19 : St _ _ w18 [rowE .u8 5 (some ⟨w10.heap.size, 0, none⟩) 2 ([21, 20]), boxE g0 [.slice zA zb.length zc, .slice A0_1 zg.length c0_1, i6 zl, i6 zn, i6 p0_4, i6 p0_5, i6 p0_6, i6 p0_7, i6 p0_8, .bool true, .bool false, .bool p0_11] 42] := hP15.lendN _ hT20
 refine ⟨(hS19.pick [1] rfl rfl), gv1 28 32 (.bool b17) rfl (hS19.pick [1] rfl rfl) (gv1 29 33 (.bool b17) rfl (hS19.pick [1] rfl rfl) (gv1 30 34 (.bool b17) rfl (hS19.pick [1] rfl rfl) (gv1 31 2 (.int .u8 0) rfl (hS19.pick [1] rfl rfl) (gv1 32 3 (.bool b17) rfl (hS19.pick [1] rfl rfl) (gd_done (by kernel_rfl) (gx_thenN ?_))))))⟩
 refine hK4 _ _ (gx_ret ?_)
 obtain rfl := sj hF
 exact gxF (.tuple #[.int .u8 0, .bool b17]) ⟨_, rfl, rfl, (hS19.pick [1] rfl rfl)⟩
 try dsimp only at hF
 refine gz1 14 18 rfl hS11 (gz1 15 19 rfl hS11 (gz1 16 20 rfl hS11 (gz1 17 21 rfl hS11 (gz1 18 22 rfl hS11 (gz1 19 23 rfl hS11 (gz1 20 24 rfl hS11 (gz1 21 25 rfl hS11 ?_)))))))
 refine gz1 22 26 rfl hS11 (gz1 23 27 rfl hS11 (gz1 24 28 rfl hS11 (gz1 25 29 rfl hS11 (gz1 26 30 rfl hS11 (gz1 27 31 rfl hS11 (gz1 28 32 rfl hS11 (gv1 29 33 (.bool true) rfl hS11 ?_)))))))
 refine gv1 30 34 (.bool true) rfl hS11 (gv1 31 2 (.int .u8 0) rfl hS11 (gv1 32 3 (.bool true) rfl hS11 (gd_done (by kernel_rfl) (gx_thenN (hK4 _ _ (gx_ret ?_))))))
 obtain rfl := sj hF
 exact gxF (.tuple #[.int .u8 0, .bool true]) ⟨_, rfl, rfl, hS11⟩
def qSignNumber (N : Nat) (zb : List Int) (zg : List Int) (zl : Int) (zn : Int) (p0_4 : Int) (p0_5 : Int) (p0_6 : Int) (p0_7 : Int) (p0_8 : Int) (p0_9 : Bool) (p0_10 : Bool) (p0_11 : Bool) : Option (Int × Bool) :=
 ((pSign N zb zg zl zn p0_4 p0_5 p0_6 p0_7 p0_8 p0_9 p0_10 p0_11 zn).bind fun b9 => (match b9 with | true => ((pDigit N zb zg zl zn p0_4 p0_5 p0_6 p0_7 p0_8 p0_9 p0_10 p0_11 p0_4).bind fun b15 => (match b15 with | true => some (0, true) | false => ((pIs N zb zg zl zn p0_4 p0_5 p0_6 p0_7 p0_8 p0_9 p0_10 p0_11 p0_4 ([19])).bind fun b23 => (match b23 with | true => ((pDigit N zb zg zl zn p0_4 p0_5 p0_6 p0_7 p0_8 p0_9 p0_10 p0_11 p0_5).bind fun b29 => (match b29 with | true => some (0, true) | false => ((pIs N zb zg zl zn p0_4 p0_5 p0_6 p0_7 p0_8 p0_9 p0_10 p0_11 p0_5 ([23])).bind fun b37 => (match b37 with | true => ((pDigit N zb zg zl zn p0_4 p0_5 p0_6 p0_7 p0_8 p0_9 p0_10 p0_11 p0_6).bind fun b43 => some (0, b43)) | false => some (0, false))))) | false => some (0, false))))) | false => some (0, false)))
def qSignNumber_R (zb : List Int) (zg : List Int) (zl : Int) (zn : Int) (p0_4 : Int) (p0_5 : Int) (p0_6 : Int) (p0_7 : Int) (p0_8 : Int) (p0_9 : Bool) (p0_10 : Bool) (p0_11 : Bool) (g0 : Nat) (zA : Option Addr) (zc : Nat) (A0_1 : Option Addr) (c0_1 : Nat) (r : Int × Bool) (w0 : World) (v : Value) (w : World) : Prop := v = .tuple #[.int .u8 r.1, .bool r.2] ∧ St (foots [plE g0 zA zc A0_1 c0_1 zb zg zl zn p0_4 p0_5 p0_6 p0_7 p0_8 p0_9 p0_10 p0_11]) w0 w [plE g0 zA zc A0_1 c0_1 zb zg zl zn p0_4 p0_5 p0_6 p0_7 p0_8 p0_9 p0_10 p0_11]
theorem qSignNumber_ok (N : Nat) (zb : List Int) (zg : List Int) (zl : Int) (zn : Int) (p0_4 : Int) (p0_5 : Int) (p0_6 : Int) (p0_7 : Int) (p0_8 : Int) (p0_9 : Bool) (p0_10 : Bool) (p0_11 : Bool) (g0 : Nat) (zA : Option Addr) (zc : Nat) (A0_1 : Option Addr) (c0_1 : Nat) (r : Int × Bool) (hF : qSignNumber N zb zg zl zn p0_4 p0_5 p0_6 p0_7 p0_8 p0_9 p0_10 p0_11 = some r) (w0 : World) (hv0_0 : Vw (foots [plE g0 zA zc A0_1 c0_1 zb zg zl zn p0_4 p0_5 p0_6 p0_7 p0_8 p0_9 p0_10 p0_11]) .i32 w0 zA zc zb) (hv0_1 : Vw (foots [plE g0 zA zc A0_1 c0_1 zb zg zl zn p0_4 p0_5 p0_6 p0_7 p0_8 p0_9 p0_10 p0_11]) .u8 w0 A0_1 c0_1 zg) (hl : St (foots [plE g0 zA zc A0_1 c0_1 zb zg zl zn p0_4 p0_5 p0_6 p0_7 p0_8 p0_9 p0_10 p0_11]) w0 w0 [plE g0 zA zc A0_1 c0_1 zb zg zl zn p0_4 p0_5 p0_6 p0_7 p0_8 p0_9 p0_10 p0_11]) :
  Calls Tryz.prog 54 #[.pointer (some ⟨g0, 0, none⟩)] w0 fun e w => ∃ v, e = .returned v ∧ qSignNumber_R zb zg zl zn p0_4 p0_5 p0_6 p0_7 p0_8 p0_9 p0_10 p0_11 g0 zA zc A0_1 c0_1 r w0 v w := by
 have hS0 := hl
 unfold qSignNumber at hF
 refine calls_of Tryz.func54 rfl ⟨((vP g0) :: un 63 ([])).toArray, []⟩ (by kernel_rfl) (gx_seq (fun K1 hK2 => gx_region (gx_k (.int .u8 0) w0 (gx_k (.bool false) w0 (gx_nil (gx_thenN (hK2 _ _ (gx_seq (fun K3 hK4 => ?_)))))))))
 refine gdst (fun w => St (foots [plE g0 zA zc A0_1 c0_1 zb zg zl zn p0_4 p0_5 p0_6 p0_7 p0_8 p0_9 p0_10 p0_11]) w0 w [plE g0 zA zc A0_1 c0_1 zb zg zl zn p0_4 p0_5 p0_6 p0_7 p0_8 p0_9 p0_10 p0_11]) 62 ?_
 have hS6 := hS0.drew
 generalize w0.drew = w5 at hS6 ⊢
 refine gv1 0 4 (vP g0) rfl hS6 (gv1 1 5 (vP g0) rfl hS6 (gv1 2 6 (vP g0) rfl hS6 (gv1 3 7 (vP g0) rfl hS6 (gv1 4 8 (vP g0) rfl hS6 (gv1 5 9 (vQ g0 3) rfl hS6 (gu1 6 10 (i6 zn) rfl hS6 (fun w hSw => rl1 (hSw.box 0 rfl 3 rfl)) ?_))))))
 have hP7 : St _ _ w5 ([plE g0 zA zc A0_1 c0_1 zb zg zl zn p0_4 p0_5 p0_6 p0_7 p0_8 p0_9 p0_10 p0_11] ++ []) := hS6
 obtain ⟨b9, hc8, hF⟩ := bind_in hF
 try dsimp only at hF
 refine gdC 7 ⟨some 11, _, _, _, _, _⟩ _ rfl (by kernel_rfl) (pSign_ok N zb zg zl zn p0_4 p0_5 p0_6 p0_7 p0_8 p0_9 p0_10 p0_11 zn g0 zA zc A0_1 c0_1 _ hc8 w5 (hP7.vwA hv0_0) (hP7.vwA hv0_1) hP7.part) ?_
 rintro _ w10 ⟨rfl, hT12⟩
 have hS11 : St _ _ w10 [plE g0 zA zc A0_1 c0_1 zb zg zl zn p0_4 p0_5 p0_6 p0_7 p0_8 p0_9 p0_10 p0_11] := hP7.lendN _ hT12
 refine ⟨hS11, gv1 8 12 (.bool b9) rfl hS11 ?_⟩
 rcases b9 with _ | _
 try dsimp only at hF
 refine gz1 9 13 rfl hS11 (gz1 10 14 rfl hS11 (gz1 11 15 rfl hS11 (gz1 12 16 rfl hS11 (gz1 13 17 rfl hS11 (gz1 14 18 rfl hS11 (gz1 15 19 rfl hS11 (gz1 16 20 rfl hS11 ?_)))))))
 refine gz1 17 21 rfl hS11 (gz1 18 22 rfl hS11 (gz1 19 23 rfl hS11 (gz1 20 24 rfl hS11 (gz1 21 25 rfl hS11 (gz1 22 26 rfl hS11 (gz1 23 27 rfl hS11 (gz1 24 28 rfl hS11 ?_)))))))
 refine gz1 25 29 rfl hS11 (gz1 26 30 rfl hS11 (gz1 27 31 rfl hS11 (gz1 28 32 rfl hS11 (gz1 29 33 rfl hS11 (gz1 30 34 rfl hS11 (gz1 31 35 rfl hS11 (gz1 32 36 rfl hS11 ?_)))))))
 refine gz1 33 37 rfl hS11 (gz1 34 38 rfl hS11 (gz1 35 39 rfl hS11 (gz1 36 40 rfl hS11 (gz1 37 41 rfl hS11 (gz1 38 42 rfl hS11 (gz1 39 43 rfl hS11 (gz1 40 44 rfl hS11 ?_)))))))
 refine gz1 41 45 rfl hS11 (gz1 42 46 rfl hS11 (gz1 43 47 rfl hS11 (gz1 44 48 rfl hS11 (gz1 45 49 rfl hS11 (gz1 46 50 rfl hS11 (gz1 47 51 rfl hS11 (gz1 48 52 rfl hS11 ?_)))))))
 refine gz1 49 53 rfl hS11 (gz1 50 54 rfl hS11 (gz1 51 55 rfl hS11 (gz1 52 56 rfl hS11 (gz1 53 57 rfl hS11 (gz1 54 58 rfl hS11 (gz1 55 59 rfl hS11 (gz1 56 60 rfl hS11 ?_)))))))
 refine gz1 57 61 rfl hS11 (gz1 58 62 rfl hS11 (gv1 59 63 (.bool false) rfl hS11 (gv1 60 2 (.int .u8 0) rfl hS11 (gv1 61 3 (.bool false) rfl hS11 (gd_done (by kernel_rfl) (gx_thenN (hK4 _ _ ?_)))))))
 refine gx_ret ?_
 obtain rfl := sj hF
 exact gxF (.tuple #[.int .u8 0, .bool false]) ⟨_, rfl, rfl, hS11⟩
 try dsimp only at hF
 refine gv1 9 13 (vP g0) rfl hS11 (gv1 10 14 (vP g0) rfl hS11 (gv1 11 15 (vP g0) rfl hS11 (gv1 12 16 (vP g0) rfl hS11 (gv1 13 17 (vP g0) rfl hS11 (gv1 14 18 (vQ g0 4) rfl hS11 (gu1 15 19 (i6 p0_4) rfl hS11 (fun w hSw => rl1 (hSw.box 0 rfl 4 rfl)) ?_))))))
 have hP13 : St _ _ w10 ([plE g0 zA zc A0_1 c0_1 zb zg zl zn p0_4 p0_5 p0_6 p0_7 p0_8 p0_9 p0_10 p0_11] ++ []) := hS11
 obtain ⟨b15, hc14, hF⟩ := bind_in hF
 try dsimp only at hF
 refine gdC 16 ⟨some 20, _, _, _, _, _⟩ _ rfl (by kernel_rfl) (pDigit_ok N zb zg zl zn p0_4 p0_5 p0_6 p0_7 p0_8 p0_9 p0_10 p0_11 p0_4 g0 zA zc A0_1 c0_1 _ hc14 w10 (hP13.vwA hv0_0) (hP13.vwA hv0_1) hP13.part) ?_
 rintro _ w16 ⟨rfl, hT18⟩
 have hS17 : St _ _ w16 [plE g0 zA zc A0_1 c0_1 zb zg zl zn p0_4 p0_5 p0_6 p0_7 p0_8 p0_9 p0_10 p0_11] := hP13.lendN _ hT18
 refine ⟨hS17, gv1 17 21 (.bool b15) rfl hS17 ?_⟩
 rcases b15 with _ | _
 try dsimp only at hF
 refine gv1 18 22 (vP g0) rfl hS17 (gv1 19 23 (vP g0) rfl hS17 (gv1 20 24 (vP g0) rfl hS17 (gv1 21 25 (vP g0) rfl hS17 (gv1 22 26 (vP g0) rfl hS17 (gv1 23 27 (vQ g0 4) rfl hS17 (gu1 24 28 (i6 p0_4) rfl hS17 (fun w hSw => rl1 (hSw.box 0 rfl 4 rfl)) (gdR 25 ⟨some 29, _, _, _, _, _⟩ rfl (st_made .u8 5 [19] hS17 (by show 1 ≤ 1000000000; decide) (by kernel_rfl)) ?_)))))))
 rintro _ w19 ⟨rfl, hS20⟩
 have hS20 : St _ _ w19 [plE g0 zA zc A0_1 c0_1 zb zg zl zn p0_4 p0_5 p0_6 p0_7 p0_8 p0_9 p0_10 p0_11, rowE .u8 5 (some ⟨w16.heap.size, 0, none⟩) 1 ([19])] := hS20
 refine ⟨(hS20.pick [0] rfl rfl), ?_⟩
 have hP21 : St _ _ w19 ([plE g0 zA zc A0_1 c0_1 zb zg zl zn p0_4 p0_5 p0_6 p0_7 p0_8 p0_9 p0_10 p0_11] ++ [rowE .u8 5 (some ⟨w16.heap.size, 0, none⟩) 1 ([19])]) := hS20
 obtain ⟨b23, hc22, hF⟩ := bind_in hF
 try dsimp only at hF
 refine gdC 26 ⟨some 30, _, _, _, _, _⟩ _ rfl (by kernel_rfl) (pIs_ok N zb zg zl zn p0_4 p0_5 p0_6 p0_7 p0_8 p0_9 p0_10 p0_11 p0_4 ([19]) g0 zA zc A0_1 c0_1 (some ⟨w16.heap.size, 0, none⟩) 1 _ hc22 w19 (hP21.vwA hv0_0) (hP21.vwA hv0_1) (hP21.vwB 0 rfl) hP21.part) ?_
 rintro _ w24 ⟨rfl, hT26⟩
 have hS25 : St _ _ w24 [rowE .u8 5 (some ⟨w16.heap.size, 0, none⟩) 1 ([19]), plE g0 zA zc A0_1 c0_1 zb zg zl zn p0_4 p0_5 p0_6 p0_7 p0_8 p0_9 p0_10 p0_11] := hP21.lendN _ hT26
 refine ⟨(hS25.pick [1] rfl rfl), gv1 27 31 (.bool b23) rfl (hS25.pick [1] rfl rfl) ?_⟩
 rcases b23 with _ | _
 try dsimp only at hF
 refine gz1 28 32 rfl (hS25.pick [1] rfl rfl) (gz1 29 33 rfl (hS25.pick [1] rfl rfl) (gz1 30 34 rfl (hS25.pick [1] rfl rfl) (gz1 31 35 rfl (hS25.pick [1] rfl rfl) (gz1 32 36 rfl (hS25.pick [1] rfl rfl) (gz1 33 37 rfl (hS25.pick [1] rfl rfl) (gz1 34 38 rfl (hS25.pick [1] rfl rfl) (gz1 35 39 rfl (hS25.pick [1] rfl rfl) ?_)))))))
 refine gz1 36 40 rfl (hS25.pick [1] rfl rfl) (gz1 37 41 rfl (hS25.pick [1] rfl rfl) (gz1 38 42 rfl (hS25.pick [1] rfl rfl) (gz1 39 43 rfl (hS25.pick [1] rfl rfl) (gz1 40 44 rfl (hS25.pick [1] rfl rfl) (gz1 41 45 rfl (hS25.pick [1] rfl rfl) (gz1 42 46 rfl (hS25.pick [1] rfl rfl) (gz1 43 47 rfl (hS25.pick [1] rfl rfl) ?_)))))))
 refine gz1 44 48 rfl (hS25.pick [1] rfl rfl) (gz1 45 49 rfl (hS25.pick [1] rfl rfl) (gz1 46 50 rfl (hS25.pick [1] rfl rfl) (gz1 47 51 rfl (hS25.pick [1] rfl rfl) (gz1 48 52 rfl (hS25.pick [1] rfl rfl) (gz1 49 53 rfl (hS25.pick [1] rfl rfl) (gz1 50 54 rfl (hS25.pick [1] rfl rfl) (gz1 51 55 rfl (hS25.pick [1] rfl rfl) ?_)))))))
 refine gz1 52 56 rfl (hS25.pick [1] rfl rfl) (gz1 53 57 rfl (hS25.pick [1] rfl rfl) (gz1 54 58 rfl (hS25.pick [1] rfl rfl) (gz1 55 59 rfl (hS25.pick [1] rfl rfl) (gz1 56 60 rfl (hS25.pick [1] rfl rfl) (gv1 57 61 (.bool false) rfl (hS25.pick [1] rfl rfl) (gv1 58 62 (.bool false) rfl (hS25.pick [1] rfl rfl) (gv1 59 63 (.bool false) rfl (hS25.pick [1] rfl rfl) ?_)))))))
 refine gv1 60 2 (.int .u8 0) rfl (hS25.pick [1] rfl rfl) (gv1 61 3 (.bool false) rfl (hS25.pick [1] rfl rfl) (gd_done (by kernel_rfl) (gx_thenN (hK4 _ _ (gx_ret ?_)))))
 obtain rfl := sj hF
 exact gxF (.tuple #[.int .u8 0, .bool false]) ⟨_, rfl, rfl, (hS25.pick [1] rfl rfl)⟩
 try dsimp only at hF
 refine gv1 28 32 (vP g0) rfl (hS25.pick [1] rfl rfl) (gv1 29 33 (vP g0) rfl (hS25.pick [1] rfl rfl) (gv1 30 34 (vP g0) rfl (hS25.pick [1] rfl rfl) (gv1 31 35 (vP g0) rfl (hS25.pick [1] rfl rfl) (gv1 32 36 (vP g0) rfl (hS25.pick [1] rfl rfl) (gv1 33 37 (vQ g0 5) rfl (hS25.pick [1] rfl rfl) (gu1 34 38 (i6 p0_5) rfl (hS25.pick [1] rfl rfl) (fun w hSw => rl1 (hSw.box 0 rfl 5 rfl)) ?_))))))
 have hP27 : St _ _ w24 ([plE g0 zA zc A0_1 c0_1 zb zg zl zn p0_4 p0_5 p0_6 p0_7 p0_8 p0_9 p0_10 p0_11] ++ [rowE .u8 5 (some ⟨w16.heap.size, 0, none⟩) 1 ([19])]) := hS25.pick [1, 0] rfl rfl
 obtain ⟨b29, hc28, hF⟩ := bind_in hF
 try dsimp only at hF
 refine gdC 35 ⟨some 39, _, _, _, _, _⟩ _ rfl (by kernel_rfl) (pDigit_ok N zb zg zl zn p0_4 p0_5 p0_6 p0_7 p0_8 p0_9 p0_10 p0_11 p0_5 g0 zA zc A0_1 c0_1 _ hc28 w24 (hP27.vwA hv0_0) (hP27.vwA hv0_1) hP27.part) ?_
 rintro _ w30 ⟨rfl, hT32⟩
 have hS31 : St _ _ w30 [rowE .u8 5 (some ⟨w16.heap.size, 0, none⟩) 1 ([19]), plE g0 zA zc A0_1 c0_1 zb zg zl zn p0_4 p0_5 p0_6 p0_7 p0_8 p0_9 p0_10 p0_11] := hP27.lendN _ hT32
 refine ⟨(hS31.pick [1] rfl rfl), gv1 36 40 (.bool b29) rfl (hS31.pick [1] rfl rfl) ?_⟩
 rcases b29 with _ | _
 try dsimp only at hF
 refine gv1 37 41 (vP g0) rfl (hS31.pick [1] rfl rfl) (gv1 38 42 (vP g0) rfl (hS31.pick [1] rfl rfl) (gv1 39 43 (vP g0) rfl (hS31.pick [1] rfl rfl) (gv1 40 44 (vP g0) rfl (hS31.pick [1] rfl rfl) (gv1 41 45 (vP g0) rfl (hS31.pick [1] rfl rfl) (gv1 42 46 (vQ g0 5) rfl (hS31.pick [1] rfl rfl) (gu1 43 47 (i6 p0_5) rfl (hS31.pick [1] rfl rfl) (fun w hSw => rl1 (hSw.box 0 rfl 5 rfl)) (gdR 44 ⟨some 48, _, _, _, _, _⟩ rfl (st_made .u8 5 [23] hS31 (by show 1 ≤ 1000000000; decide) (by kernel_rfl)) ?_)))))))
 rintro _ w33 ⟨rfl, hS34⟩
 have hS34 : St _ _ w33 [rowE .u8 5 (some ⟨w16.heap.size, 0, none⟩) 1 ([19]), plE g0 zA zc A0_1 c0_1 zb zg zl zn p0_4 p0_5 p0_6 p0_7 p0_8 p0_9 p0_10 p0_11, rowE .u8 5 (some ⟨w30.heap.size, 0, none⟩) 1 ([23])] := hS34
 refine ⟨(hS34.pick [1] rfl rfl), ?_⟩
 have hP35 : St _ _ w33 ([plE g0 zA zc A0_1 c0_1 zb zg zl zn p0_4 p0_5 p0_6 p0_7 p0_8 p0_9 p0_10 p0_11] ++ [rowE .u8 5 (some ⟨w16.heap.size, 0, none⟩) 1 ([19]), rowE .u8 5 (some ⟨w30.heap.size, 0, none⟩) 1 ([23])]) := hS34.pick [1, 0, 2] rfl rfl
 obtain ⟨b37, hc36, hF⟩ := bind_in hF
 try dsimp only at hF
 refine gdC 45 ⟨some 49, _, _, _, _, _⟩ _ rfl (by kernel_rfl) (pIs_ok N zb zg zl zn p0_4 p0_5 p0_6 p0_7 p0_8 p0_9 p0_10 p0_11 p0_5 ([23]) g0 zA zc A0_1 c0_1 (some ⟨w30.heap.size, 0, none⟩) 1 _ hc36 w33 (hP35.vwA hv0_0) (hP35.vwA hv0_1) (hP35.vwB 1 rfl) hP35.part) ?_
 rintro _ w38 ⟨rfl, hT40⟩
 have hS39 : St _ _ w38 [rowE .u8 5 (some ⟨w16.heap.size, 0, none⟩) 1 ([19]), rowE .u8 5 (some ⟨w30.heap.size, 0, none⟩) 1 ([23]), plE g0 zA zc A0_1 c0_1 zb zg zl zn p0_4 p0_5 p0_6 p0_7 p0_8 p0_9 p0_10 p0_11] := hP35.lendN _ hT40
 refine ⟨(hS39.pick [2] rfl rfl), gv1 46 50 (.bool b37) rfl (hS39.pick [2] rfl rfl) ?_⟩
 rcases b37 with _ | _
 try dsimp only at hF
 refine gz1 47 51 rfl (hS39.pick [2] rfl rfl) (gz1 48 52 rfl (hS39.pick [2] rfl rfl) (gz1 49 53 rfl (hS39.pick [2] rfl rfl) (gz1 50 54 rfl (hS39.pick [2] rfl rfl) (gz1 51 55 rfl (hS39.pick [2] rfl rfl) (gz1 52 56 rfl (hS39.pick [2] rfl rfl) (gz1 53 57 rfl (hS39.pick [2] rfl rfl) (gz1 54 58 rfl (hS39.pick [2] rfl rfl) ?_)))))))
 refine gv1 55 59 (.bool false) rfl (hS39.pick [2] rfl rfl) (gv1 56 60 (.bool false) rfl (hS39.pick [2] rfl rfl) (gv1 57 61 (.bool false) rfl (hS39.pick [2] rfl rfl) (gv1 58 62 (.bool false) rfl (hS39.pick [2] rfl rfl) (gv1 59 63 (.bool false) rfl (hS39.pick [2] rfl rfl) (gv1 60 2 (.int .u8 0) rfl (hS39.pick [2] rfl rfl) (gv1 61 3 (.bool false) rfl (hS39.pick [2] rfl rfl) (gd_done (by kernel_rfl) ?_)))))))
 refine gx_thenN (hK4 _ _ (gx_ret ?_))
 obtain rfl := sj hF
 exact gxF (.tuple #[.int .u8 0, .bool false]) ⟨_, rfl, rfl, (hS39.pick [2] rfl rfl)⟩
 try dsimp only at hF
 refine gv1 47 51 (vP g0) rfl (hS39.pick [2] rfl rfl) (gv1 48 52 (vP g0) rfl (hS39.pick [2] rfl rfl) (gv1 49 53 (vP g0) rfl (hS39.pick [2] rfl rfl) (gv1 50 54 (vP g0) rfl (hS39.pick [2] rfl rfl) (gv1 51 55 (vP g0) rfl (hS39.pick [2] rfl rfl) (gv1 52 56 (vQ g0 6) rfl (hS39.pick [2] rfl rfl) (gu1 53 57 (i6 p0_6) rfl (hS39.pick [2] rfl rfl) (fun w hSw => rl1 (hSw.box 0 rfl 6 rfl)) ?_))))))
 have hP41 : St _ _ w38 ([plE g0 zA zc A0_1 c0_1 zb zg zl zn p0_4 p0_5 p0_6 p0_7 p0_8 p0_9 p0_10 p0_11] ++ [rowE .u8 5 (some ⟨w16.heap.size, 0, none⟩) 1 ([19]), rowE .u8 5 (some ⟨w30.heap.size, 0, none⟩) 1 ([23])]) := hS39.pick [2, 0, 1] rfl rfl
 obtain ⟨b43, hc42, hF⟩ := bind_in hF
 try dsimp only at hF
 refine gdC 54 ⟨some 58, _, _, _, _, _⟩ _ rfl (by kernel_rfl) (pDigit_ok N zb zg zl zn p0_4 p0_5 p0_6 p0_7 p0_8 p0_9 p0_10 p0_11 p0_6 g0 zA zc A0_1 c0_1 _ hc42 w38 (hP41.vwA hv0_0) (hP41.vwA hv0_1) hP41.part) ?_
 rintro _ w44 ⟨rfl, hT46⟩
 have hS45 : St _ _ w44 [rowE .u8 5 (some ⟨w16.heap.size, 0, none⟩) 1 ([19]), rowE .u8 5 (some ⟨w30.heap.size, 0, none⟩) 1 ([23]), plE g0 zA zc A0_1 c0_1 zb zg zl zn p0_4 p0_5 p0_6 p0_7 p0_8 p0_9 p0_10 p0_11] := hP41.lendN _ hT46
 refine ⟨(hS45.pick [2] rfl rfl), gv1 55 59 (.bool b43) rfl (hS45.pick [2] rfl rfl) (gv1 56 60 (.bool b43) rfl (hS45.pick [2] rfl rfl) (gv1 57 61 (.bool b43) rfl (hS45.pick [2] rfl rfl) (gv1 58 62 (.bool b43) rfl (hS45.pick [2] rfl rfl) (gv1 59 63 (.bool b43) rfl (hS45.pick [2] rfl rfl) (gv1 60 2 (.int .u8 0) rfl (hS45.pick [2] rfl rfl) (gv1 61 3 (.bool b43) rfl (hS45.pick [2] rfl rfl) ?_))))))⟩
 refine gd_done (by kernel_rfl) (gx_thenN (hK4 _ _ (gx_ret ?_)))
 obtain rfl := sj hF
 exact gxF (.tuple #[.int .u8 0, .bool b43]) ⟨_, rfl, rfl, (hS45.pick [2] rfl rfl)⟩
 try dsimp only at hF
 refine gz1 37 41 rfl (hS31.pick [1] rfl rfl) (gz1 38 42 rfl (hS31.pick [1] rfl rfl) (gz1 39 43 rfl (hS31.pick [1] rfl rfl) (gz1 40 44 rfl (hS31.pick [1] rfl rfl) (gz1 41 45 rfl (hS31.pick [1] rfl rfl) (gz1 42 46 rfl (hS31.pick [1] rfl rfl) (gz1 43 47 rfl (hS31.pick [1] rfl rfl) (gz1 44 48 rfl (hS31.pick [1] rfl rfl) ?_)))))))
 refine gz1 45 49 rfl (hS31.pick [1] rfl rfl) (gz1 46 50 rfl (hS31.pick [1] rfl rfl) (gz1 47 51 rfl (hS31.pick [1] rfl rfl) (gz1 48 52 rfl (hS31.pick [1] rfl rfl) (gz1 49 53 rfl (hS31.pick [1] rfl rfl) (gz1 50 54 rfl (hS31.pick [1] rfl rfl) (gz1 51 55 rfl (hS31.pick [1] rfl rfl) (gz1 52 56 rfl (hS31.pick [1] rfl rfl) ?_)))))))
 refine gz1 53 57 rfl (hS31.pick [1] rfl rfl) (gz1 54 58 rfl (hS31.pick [1] rfl rfl) (gz1 55 59 rfl (hS31.pick [1] rfl rfl) (gv1 56 60 (.bool true) rfl (hS31.pick [1] rfl rfl) (gv1 57 61 (.bool true) rfl (hS31.pick [1] rfl rfl) (gv1 58 62 (.bool true) rfl (hS31.pick [1] rfl rfl) (gv1 59 63 (.bool true) rfl (hS31.pick [1] rfl rfl) (gv1 60 2 (.int .u8 0) rfl (hS31.pick [1] rfl rfl) ?_)))))))
 refine gv1 61 3 (.bool true) rfl (hS31.pick [1] rfl rfl) (gd_done (by kernel_rfl) (gx_thenN (hK4 _ _ (gx_ret ?_))))
 obtain rfl := sj hF
 exact gxF (.tuple #[.int .u8 0, .bool true]) ⟨_, rfl, rfl, (hS31.pick [1] rfl rfl)⟩
 try dsimp only at hF
 refine gz1 18 22 rfl hS17 (gz1 19 23 rfl hS17 (gz1 20 24 rfl hS17 (gz1 21 25 rfl hS17 (gz1 22 26 rfl hS17 (gz1 23 27 rfl hS17 (gz1 24 28 rfl hS17 (gz1 25 29 rfl hS17 ?_)))))))
 refine gz1 26 30 rfl hS17 (gz1 27 31 rfl hS17 (gz1 28 32 rfl hS17 (gz1 29 33 rfl hS17 (gz1 30 34 rfl hS17 (gz1 31 35 rfl hS17 (gz1 32 36 rfl hS17 (gz1 33 37 rfl hS17 ?_)))))))
 refine gz1 34 38 rfl hS17 (gz1 35 39 rfl hS17 (gz1 36 40 rfl hS17 (gz1 37 41 rfl hS17 (gz1 38 42 rfl hS17 (gz1 39 43 rfl hS17 (gz1 40 44 rfl hS17 (gz1 41 45 rfl hS17 ?_)))))))
 refine gz1 42 46 rfl hS17 (gz1 43 47 rfl hS17 (gz1 44 48 rfl hS17 (gz1 45 49 rfl hS17 (gz1 46 50 rfl hS17 (gz1 47 51 rfl hS17 (gz1 48 52 rfl hS17 (gz1 49 53 rfl hS17 ?_)))))))
 refine gz1 50 54 rfl hS17 (gz1 51 55 rfl hS17 (gz1 52 56 rfl hS17 (gz1 53 57 rfl hS17 (gz1 54 58 rfl hS17 (gz1 55 59 rfl hS17 (gz1 56 60 rfl hS17 (gz1 57 61 rfl hS17 ?_)))))))
 refine gv1 58 62 (.bool true) rfl hS17 (gv1 59 63 (.bool true) rfl hS17 (gv1 60 2 (.int .u8 0) rfl hS17 (gv1 61 3 (.bool true) rfl hS17 (gd_done (by kernel_rfl) (gx_thenN (hK4 _ _ (gx_ret ?_)))))))
 obtain rfl := sj hF
 exact gxF (.tuple #[.int .u8 0, .bool true]) ⟨_, rfl, rfl, hS17⟩
def qHyphenDigit (N : Nat) (zb : List Int) (zg : List Int) (zl : Int) (zn : Int) (p0_4 : Int) (p0_5 : Int) (p0_6 : Int) (p0_7 : Int) (p0_8 : Int) (p0_9 : Bool) (p0_10 : Bool) (p0_11 : Bool) : Option (Int × Bool) :=
 ((pIs N zb zg zl zn p0_4 p0_5 p0_6 p0_7 p0_8 p0_9 p0_10 p0_11 zn ([14, 23])).bind fun b11 => (match b11 with | true => ((pDigit N zb zg zl zn p0_4 p0_5 p0_6 p0_7 p0_8 p0_9 p0_10 p0_11 p0_4).bind fun b17 => some (0, b17)) | false => some (0, false)))
def qHyphenDigit_R (zb : List Int) (zg : List Int) (zl : Int) (zn : Int) (p0_4 : Int) (p0_5 : Int) (p0_6 : Int) (p0_7 : Int) (p0_8 : Int) (p0_9 : Bool) (p0_10 : Bool) (p0_11 : Bool) (g0 : Nat) (zA : Option Addr) (zc : Nat) (A0_1 : Option Addr) (c0_1 : Nat) (r : Int × Bool) (w0 : World) (v : Value) (w : World) : Prop := v = .tuple #[.int .u8 r.1, .bool r.2] ∧ St (foots [plE g0 zA zc A0_1 c0_1 zb zg zl zn p0_4 p0_5 p0_6 p0_7 p0_8 p0_9 p0_10 p0_11]) w0 w [plE g0 zA zc A0_1 c0_1 zb zg zl zn p0_4 p0_5 p0_6 p0_7 p0_8 p0_9 p0_10 p0_11]
theorem qHyphenDigit_ok (N : Nat) (zb : List Int) (zg : List Int) (zl : Int) (zn : Int) (p0_4 : Int) (p0_5 : Int) (p0_6 : Int) (p0_7 : Int) (p0_8 : Int) (p0_9 : Bool) (p0_10 : Bool) (p0_11 : Bool) (g0 : Nat) (zA : Option Addr) (zc : Nat) (A0_1 : Option Addr) (c0_1 : Nat) (r : Int × Bool) (hF : qHyphenDigit N zb zg zl zn p0_4 p0_5 p0_6 p0_7 p0_8 p0_9 p0_10 p0_11 = some r) (w0 : World) (hv0_0 : Vw (foots [plE g0 zA zc A0_1 c0_1 zb zg zl zn p0_4 p0_5 p0_6 p0_7 p0_8 p0_9 p0_10 p0_11]) .i32 w0 zA zc zb) (hv0_1 : Vw (foots [plE g0 zA zc A0_1 c0_1 zb zg zl zn p0_4 p0_5 p0_6 p0_7 p0_8 p0_9 p0_10 p0_11]) .u8 w0 A0_1 c0_1 zg) (hl : St (foots [plE g0 zA zc A0_1 c0_1 zb zg zl zn p0_4 p0_5 p0_6 p0_7 p0_8 p0_9 p0_10 p0_11]) w0 w0 [plE g0 zA zc A0_1 c0_1 zb zg zl zn p0_4 p0_5 p0_6 p0_7 p0_8 p0_9 p0_10 p0_11]) :
  Calls Tryz.prog 55 #[.pointer (some ⟨g0, 0, none⟩)] w0 fun e w => ∃ v, e = .returned v ∧ qHyphenDigit_R zb zg zl zn p0_4 p0_5 p0_6 p0_7 p0_8 p0_9 p0_10 p0_11 g0 zA zc A0_1 c0_1 r w0 v w := by
 have hS0 := hl
 unfold qHyphenDigit at hF
 refine calls_of Tryz.func55 rfl ⟨((vP g0) :: un 22 ([])).toArray, []⟩ (by kernel_rfl) (gx_seq (fun K1 hK2 => gx_region (gx_k (.int .u8 0) w0 (gx_k (.bool false) w0 (gx_nil (gx_thenN (hK2 _ _ (gx_seq (fun K3 hK4 => ?_)))))))))
 refine gdst (fun w => St (foots [plE g0 zA zc A0_1 c0_1 zb zg zl zn p0_4 p0_5 p0_6 p0_7 p0_8 p0_9 p0_10 p0_11]) w0 w [plE g0 zA zc A0_1 c0_1 zb zg zl zn p0_4 p0_5 p0_6 p0_7 p0_8 p0_9 p0_10 p0_11]) 21 ?_
 have hS6 := hS0.drew
 generalize w0.drew = w5 at hS6 ⊢
 refine gv1 0 4 (vP g0) rfl hS6 (gv1 1 5 (vP g0) rfl hS6 (gv1 2 6 (vP g0) rfl hS6 (gv1 3 7 (vP g0) rfl hS6 (gv1 4 8 (vP g0) rfl hS6 (gv1 5 9 (vQ g0 3) rfl hS6 (gu1 6 10 (i6 zn) rfl hS6 (fun w hSw => rl1 (hSw.box 0 rfl 3 rfl)) (gdR 7 ⟨some 11, _, _, _, _, _⟩ rfl (st_made .u8 5 [14, 23] hS6 (by show 2 ≤ 1000000000; decide) (by kernel_rfl)) ?_)))))))
 rintro _ w7 ⟨rfl, hS8⟩
 have hS8 : St _ _ w7 [plE g0 zA zc A0_1 c0_1 zb zg zl zn p0_4 p0_5 p0_6 p0_7 p0_8 p0_9 p0_10 p0_11, rowE .u8 5 (some ⟨w5.heap.size, 0, none⟩) 2 ([14, 23])] := hS8
 refine ⟨(hS8.pick [0] rfl rfl), ?_⟩
 have hP9 : St _ _ w7 ([plE g0 zA zc A0_1 c0_1 zb zg zl zn p0_4 p0_5 p0_6 p0_7 p0_8 p0_9 p0_10 p0_11] ++ [rowE .u8 5 (some ⟨w5.heap.size, 0, none⟩) 2 ([14, 23])]) := hS8
 obtain ⟨b11, hc10, hF⟩ := bind_in hF
 try dsimp only at hF
 refine gdC 8 ⟨some 12, _, _, _, _, _⟩ _ rfl (by kernel_rfl) (pIs_ok N zb zg zl zn p0_4 p0_5 p0_6 p0_7 p0_8 p0_9 p0_10 p0_11 zn ([14, 23]) g0 zA zc A0_1 c0_1 (some ⟨w5.heap.size, 0, none⟩) 2 _ hc10 w7 (hP9.vwA hv0_0) (hP9.vwA hv0_1) (hP9.vwB 0 rfl) hP9.part) ?_
 rintro _ w12 ⟨rfl, hT14⟩
 have hS13 : St _ _ w12 [rowE .u8 5 (some ⟨w5.heap.size, 0, none⟩) 2 ([14, 23]), plE g0 zA zc A0_1 c0_1 zb zg zl zn p0_4 p0_5 p0_6 p0_7 p0_8 p0_9 p0_10 p0_11] := hP9.lendN _ hT14
 refine ⟨(hS13.pick [1] rfl rfl), gv1 9 13 (.bool b11) rfl (hS13.pick [1] rfl rfl) ?_⟩
 rcases b11 with _ | _
 try dsimp only at hF
 refine gz1 10 14 rfl (hS13.pick [1] rfl rfl) (gz1 11 15 rfl (hS13.pick [1] rfl rfl) (gz1 12 16 rfl (hS13.pick [1] rfl rfl) (gz1 13 17 rfl (hS13.pick [1] rfl rfl) (gz1 14 18 rfl (hS13.pick [1] rfl rfl) (gz1 15 19 rfl (hS13.pick [1] rfl rfl) (gz1 16 20 rfl (hS13.pick [1] rfl rfl) (gz1 17 21 rfl (hS13.pick [1] rfl rfl) ?_)))))))
 refine gv1 18 22 (.bool false) rfl (hS13.pick [1] rfl rfl) (gv1 19 2 (.int .u8 0) rfl (hS13.pick [1] rfl rfl) (gv1 20 3 (.bool false) rfl (hS13.pick [1] rfl rfl) (gd_done (by kernel_rfl) (gx_thenN (hK4 _ _ (gx_ret ?_))))))
 obtain rfl := sj hF
 exact gxF (.tuple #[.int .u8 0, .bool false]) ⟨_, rfl, rfl, (hS13.pick [1] rfl rfl)⟩
 try dsimp only at hF
 refine gv1 10 14 (vP g0) rfl (hS13.pick [1] rfl rfl) (gv1 11 15 (vP g0) rfl (hS13.pick [1] rfl rfl) (gv1 12 16 (vP g0) rfl (hS13.pick [1] rfl rfl) (gv1 13 17 (vP g0) rfl (hS13.pick [1] rfl rfl) (gv1 14 18 (vP g0) rfl (hS13.pick [1] rfl rfl) (gv1 15 19 (vQ g0 4) rfl (hS13.pick [1] rfl rfl) (gu1 16 20 (i6 p0_4) rfl (hS13.pick [1] rfl rfl) (fun w hSw => rl1 (hSw.box 0 rfl 4 rfl)) ?_))))))
 have hP15 : St _ _ w12 ([plE g0 zA zc A0_1 c0_1 zb zg zl zn p0_4 p0_5 p0_6 p0_7 p0_8 p0_9 p0_10 p0_11] ++ [rowE .u8 5 (some ⟨w5.heap.size, 0, none⟩) 2 ([14, 23])]) := hS13.pick [1, 0] rfl rfl
 obtain ⟨b17, hc16, hF⟩ := bind_in hF
 try dsimp only at hF
 refine gdC 17 ⟨some 21, _, _, _, _, _⟩ _ rfl (by kernel_rfl) (pDigit_ok N zb zg zl zn p0_4 p0_5 p0_6 p0_7 p0_8 p0_9 p0_10 p0_11 p0_4 g0 zA zc A0_1 c0_1 _ hc16 w12 (hP15.vwA hv0_0) (hP15.vwA hv0_1) hP15.part) ?_
 rintro _ w18 ⟨rfl, hT20⟩
 have hS19 : St _ _ w18 [rowE .u8 5 (some ⟨w5.heap.size, 0, none⟩) 2 ([14, 23]), plE g0 zA zc A0_1 c0_1 zb zg zl zn p0_4 p0_5 p0_6 p0_7 p0_8 p0_9 p0_10 p0_11] := hP15.lendN _ hT20
 refine ⟨(hS19.pick [1] rfl rfl), gv1 18 22 (.bool b17) rfl (hS19.pick [1] rfl rfl) (gv1 19 2 (.int .u8 0) rfl (hS19.pick [1] rfl rfl) (gv1 20 3 (.bool b17) rfl (hS19.pick [1] rfl rfl) (gd_done (by kernel_rfl) (gx_thenN (hK4 _ _ (gx_ret ?_))))))⟩
 obtain rfl := sj hF
 exact gxF (.tuple #[.int .u8 0, .bool b17]) ⟨_, rfl, rfl, (hS19.pick [1] rfl rfl)⟩
def qNumberDigit (N : Nat) (zb : List Int) (zg : List Int) (zl : Int) (zn : Int) (p0_4 : Int) (p0_5 : Int) (p0_6 : Int) (p0_7 : Int) (p0_8 : Int) (p0_9 : Bool) (p0_10 : Bool) (p0_11 : Bool) : Option (Int × Bool) :=
 (match p0_10 with | true => ((pDigit N zb zg zl zn p0_4 p0_5 p0_6 p0_7 p0_8 p0_9 true p0_11 p0_4).bind fun b9 => some (0, b9)) | false => some (0, false))
def qNumberDigit_R (zb : List Int) (zg : List Int) (zl : Int) (zn : Int) (p0_4 : Int) (p0_5 : Int) (p0_6 : Int) (p0_7 : Int) (p0_8 : Int) (p0_9 : Bool) (p0_10 : Bool) (p0_11 : Bool) (g0 : Nat) (zA : Option Addr) (zc : Nat) (A0_1 : Option Addr) (c0_1 : Nat) (r : Int × Bool) (w0 : World) (v : Value) (w : World) : Prop := v = .tuple #[.int .u8 r.1, .bool r.2] ∧ St (foots [plE g0 zA zc A0_1 c0_1 zb zg zl zn p0_4 p0_5 p0_6 p0_7 p0_8 p0_9 p0_10 p0_11]) w0 w [plE g0 zA zc A0_1 c0_1 zb zg zl zn p0_4 p0_5 p0_6 p0_7 p0_8 p0_9 p0_10 p0_11]
theorem qNumberDigit_ok (N : Nat) (zb : List Int) (zg : List Int) (zl : Int) (zn : Int) (p0_4 : Int) (p0_5 : Int) (p0_6 : Int) (p0_7 : Int) (p0_8 : Int) (p0_9 : Bool) (p0_10 : Bool) (p0_11 : Bool) (g0 : Nat) (zA : Option Addr) (zc : Nat) (A0_1 : Option Addr) (c0_1 : Nat) (r : Int × Bool) (hF : qNumberDigit N zb zg zl zn p0_4 p0_5 p0_6 p0_7 p0_8 p0_9 p0_10 p0_11 = some r) (w0 : World) (hv0_0 : Vw (foots [plE g0 zA zc A0_1 c0_1 zb zg zl zn p0_4 p0_5 p0_6 p0_7 p0_8 p0_9 p0_10 p0_11]) .i32 w0 zA zc zb) (hv0_1 : Vw (foots [plE g0 zA zc A0_1 c0_1 zb zg zl zn p0_4 p0_5 p0_6 p0_7 p0_8 p0_9 p0_10 p0_11]) .u8 w0 A0_1 c0_1 zg) (hl : St (foots [plE g0 zA zc A0_1 c0_1 zb zg zl zn p0_4 p0_5 p0_6 p0_7 p0_8 p0_9 p0_10 p0_11]) w0 w0 [plE g0 zA zc A0_1 c0_1 zb zg zl zn p0_4 p0_5 p0_6 p0_7 p0_8 p0_9 p0_10 p0_11]) :
  Calls Tryz.prog 56 #[.pointer (some ⟨g0, 0, none⟩)] w0 fun e w => ∃ v, e = .returned v ∧ qNumberDigit_R zb zg zl zn p0_4 p0_5 p0_6 p0_7 p0_8 p0_9 p0_10 p0_11 g0 zA zc A0_1 c0_1 r w0 v w := by
 have hS0 := hl
 unfold qNumberDigit at hF
 refine calls_of Tryz.func56 rfl ⟨((vP g0) :: un 17 ([])).toArray, []⟩ (by kernel_rfl) (gx_seq (fun K1 hK2 => gx_region (gx_k (.int .u8 0) w0 (gx_k (.bool false) w0 (gx_nil (gx_thenN (hK2 _ _ (gx_seq (fun K3 hK4 => ?_)))))))))
 refine gdst (fun w => St (foots [plE g0 zA zc A0_1 c0_1 zb zg zl zn p0_4 p0_5 p0_6 p0_7 p0_8 p0_9 p0_10 p0_11]) w0 w [plE g0 zA zc A0_1 c0_1 zb zg zl zn p0_4 p0_5 p0_6 p0_7 p0_8 p0_9 p0_10 p0_11]) 16 ?_
 have hS6 := hS0.drew
 generalize w0.drew = w5 at hS6 ⊢
 refine gv1 0 4 (vP g0) rfl hS6 (gv1 1 5 (vP g0) rfl hS6 (gv1 2 6 (vQ g0 10) rfl hS6 (gu1 3 7 (.bool p0_10) rfl hS6 (fun w hSw => rl1 (hSw.box 0 rfl 10 rfl)) (gv1 4 8 (.bool p0_10) rfl hS6 ?_))))
 rcases p0_10 with _ | _
 try dsimp only at hF
 refine gz1 5 9 rfl hS6 (gz1 6 10 rfl hS6 (gz1 7 11 rfl hS6 (gz1 8 12 rfl hS6 (gz1 9 13 rfl hS6 (gz1 10 14 rfl hS6 (gz1 11 15 rfl hS6 (gz1 12 16 rfl hS6 ?_)))))))
 refine gv1 13 17 (.bool false) rfl hS6 (gv1 14 2 (.int .u8 0) rfl hS6 (gv1 15 3 (.bool false) rfl hS6 (gd_done (by kernel_rfl) (gx_thenN (hK4 _ _ (gx_ret ?_))))))
 obtain rfl := sj hF
 exact gxF (.tuple #[.int .u8 0, .bool false]) ⟨_, rfl, rfl, hS6⟩
 try dsimp only at hF
 refine gv1 5 9 (vP g0) rfl hS6 (gv1 6 10 (vP g0) rfl hS6 (gv1 7 11 (vP g0) rfl hS6 (gv1 8 12 (vP g0) rfl hS6 (gv1 9 13 (vP g0) rfl hS6 (gv1 10 14 (vQ g0 4) rfl hS6 (gu1 11 15 (i6 p0_4) rfl hS6 (fun w hSw => rl1 (hSw.box 0 rfl 4 rfl)) ?_))))))
 have hP7 : St _ _ w5 ([boxE g0 [.slice zA zb.length zc, .slice A0_1 zg.length c0_1, i6 zl, i6 zn, i6 p0_4, i6 p0_5, i6 p0_6, i6 p0_7, i6 p0_8, .bool p0_9, .bool true, .bool p0_11] 42] ++ []) := hS6
 obtain ⟨b9, hc8, hF⟩ := bind_in hF
 try dsimp only at hF
 refine gdC 12 ⟨some 16, _, _, _, _, _⟩ _ rfl (by kernel_rfl) (pDigit_ok N zb zg zl zn p0_4 p0_5 p0_6 p0_7 p0_8 p0_9 true p0_11 p0_4 g0 zA zc A0_1 c0_1 _ hc8 w5 (hP7.vwA hv0_0) (hP7.vwA hv0_1) hP7.part) ?_
 rintro _ w10 ⟨rfl, hT12⟩
 have hS11 : St _ _ w10 [boxE g0 [.slice zA zb.length zc, .slice A0_1 zg.length c0_1, i6 zl, i6 zn, i6 p0_4, i6 p0_5, i6 p0_6, i6 p0_7, i6 p0_8, .bool p0_9, .bool true, .bool p0_11] 42] := hP7.lendN _ hT12
 refine ⟨hS11, gv1 13 17 (.bool b9) rfl hS11 (gv1 14 2 (.int .u8 0) rfl hS11 (gv1 15 3 (.bool b9) rfl hS11 (gd_done (by kernel_rfl) (gx_thenN (hK4 _ _ (gx_ret ?_))))))⟩
 obtain rfl := sj hF
 exact gxF (.tuple #[.int .u8 0, .bool b9]) ⟨_, rfl, rfl, hS11⟩
def qWithinSyllable (N : Nat) (zb : List Int) (zg : List Int) (zl : Int) (zn : Int) (p0_4 : Int) (p0_5 : Int) (p0_6 : Int) (p0_7 : Int) (p0_8 : Int) (p0_9 : Bool) (p0_10 : Bool) (p0_11 : Bool) : Option (Int × Bool) :=
 ((((pIs N zb zg zl zn p0_4 p0_5 p0_6 p0_7 p0_8 p0_9 p0_10 p0_11 zn ([33])).bind fun b20 => (match b20 with | true => ((pIs N zb zg zl zn p0_4 p0_5 p0_6 p0_7 p0_8 p0_9 p0_10 p0_11 p0_4 ([33, 34, 36, 37])).bind fun b28 => some (b28)) | false => some (false))) : Option (Bool)).bind fun b12 => (((match b12 with | true => some (true) | false => ((((pIs N zb zg zl zn p0_4 p0_5 p0_6 p0_7 p0_8 p0_9 p0_10 p0_11 zn ([34, 36])).bind fun b54 => (match b54 with | true => ((pIs N zb zg zl zn p0_4 p0_5 p0_6 p0_7 p0_8 p0_9 p0_10 p0_11 p0_4 ([34, 35])).bind fun b62 => some (b62)) | false => some (false))) : Option (Bool)).bind fun b46 => some (b46))) : Option (Bool)).bind fun b35 => (match b35 with | true => some (0, true) | false => ((pIs N zb zg zl zn p0_4 p0_5 p0_6 p0_7 p0_8 p0_9 p0_10 p0_11 zn ([35, 37])).bind fun b70 => (match b70 with | true => ((pIs N zb zg zl zn p0_4 p0_5 p0_6 p0_7 p0_8 p0_9 p0_10 p0_11 p0_4 ([35])).bind fun b78 => some (0, b78)) | false => some (0, false))))))
def qWithinSyllable_R (zb : List Int) (zg : List Int) (zl : Int) (zn : Int) (p0_4 : Int) (p0_5 : Int) (p0_6 : Int) (p0_7 : Int) (p0_8 : Int) (p0_9 : Bool) (p0_10 : Bool) (p0_11 : Bool) (g0 : Nat) (zA : Option Addr) (zc : Nat) (A0_1 : Option Addr) (c0_1 : Nat) (r : Int × Bool) (w0 : World) (v : Value) (w : World) : Prop := v = .tuple #[.int .u8 r.1, .bool r.2] ∧ St (foots [plE g0 zA zc A0_1 c0_1 zb zg zl zn p0_4 p0_5 p0_6 p0_7 p0_8 p0_9 p0_10 p0_11]) w0 w [plE g0 zA zc A0_1 c0_1 zb zg zl zn p0_4 p0_5 p0_6 p0_7 p0_8 p0_9 p0_10 p0_11]
theorem qWithinSyllable_ok (N : Nat) (zb : List Int) (zg : List Int) (zl : Int) (zn : Int) (p0_4 : Int) (p0_5 : Int) (p0_6 : Int) (p0_7 : Int) (p0_8 : Int) (p0_9 : Bool) (p0_10 : Bool) (p0_11 : Bool) (g0 : Nat) (zA : Option Addr) (zc : Nat) (A0_1 : Option Addr) (c0_1 : Nat) (r : Int × Bool) (hF : qWithinSyllable N zb zg zl zn p0_4 p0_5 p0_6 p0_7 p0_8 p0_9 p0_10 p0_11 = some r) (w0 : World) (hv0_0 : Vw (foots [plE g0 zA zc A0_1 c0_1 zb zg zl zn p0_4 p0_5 p0_6 p0_7 p0_8 p0_9 p0_10 p0_11]) .i32 w0 zA zc zb) (hv0_1 : Vw (foots [plE g0 zA zc A0_1 c0_1 zb zg zl zn p0_4 p0_5 p0_6 p0_7 p0_8 p0_9 p0_10 p0_11]) .u8 w0 A0_1 c0_1 zg) (hl : St (foots [plE g0 zA zc A0_1 c0_1 zb zg zl zn p0_4 p0_5 p0_6 p0_7 p0_8 p0_9 p0_10 p0_11]) w0 w0 [plE g0 zA zc A0_1 c0_1 zb zg zl zn p0_4 p0_5 p0_6 p0_7 p0_8 p0_9 p0_10 p0_11]) :
  Calls Tryz.prog 57 #[.pointer (some ⟨g0, 0, none⟩)] w0 fun e w => ∃ v, e = .returned v ∧ qWithinSyllable_R zb zg zl zn p0_4 p0_5 p0_6 p0_7 p0_8 p0_9 p0_10 p0_11 g0 zA zc A0_1 c0_1 r w0 v w := by
 have hS0 := hl
 unfold qWithinSyllable at hF
 refine calls_of Tryz.func57 rfl ⟨((vP g0) :: un 67 ([])).toArray, []⟩ (by kernel_rfl) (gx_seq (fun K1 hK2 => gx_region (gx_k (.int .u8 0) w0 (gx_k (.bool false) w0 (gx_nil (gx_thenN (hK2 _ _ (gx_seq (fun K3 hK4 => ?_)))))))))
 refine gdst (fun w => St (foots [plE g0 zA zc A0_1 c0_1 zb zg zl zn p0_4 p0_5 p0_6 p0_7 p0_8 p0_9 p0_10 p0_11]) w0 w [plE g0 zA zc A0_1 c0_1 zb zg zl zn p0_4 p0_5 p0_6 p0_7 p0_8 p0_9 p0_10 p0_11]) 66 ?_
 have hS6 := hS0.drew
 generalize w0.drew = w5 at hS6 ⊢
 refine gv1 0 4 (vP g0) rfl hS6 (gv1 1 5 (vP g0) rfl hS6 (gv1 2 6 (vP g0) rfl hS6 (gv1 3 7 (vP g0) rfl hS6 (gv1 4 8 (vP g0) rfl hS6 (gv1 5 9 (vQ g0 3) rfl hS6 (gu1 6 10 (i6 zn) rfl hS6 (fun w hSw => rl1 (hSw.box 0 rfl 3 rfl)) (gdR 7 ⟨some 11, _, _, _, _, _⟩ rfl (st_made .u8 5 [33] hS6 (by show 1 ≤ 1000000000; decide) (by kernel_rfl)) ?_)))))))
 rintro _ w7 ⟨rfl, hS8⟩
 have hS8 : St _ _ w7 [plE g0 zA zc A0_1 c0_1 zb zg zl zn p0_4 p0_5 p0_6 p0_7 p0_8 p0_9 p0_10 p0_11, rowE .u8 5 (some ⟨w5.heap.size, 0, none⟩) 1 ([33])] := hS8
 refine ⟨(hS8.pick [0] rfl rfl), ?_⟩
 obtain ⟨c13, hE14, hO15⟩ := bind_in hF
 refine gd_mid (fun a w => ∃ (b12 : Bool), selfA (fun u11 => ⟨((vP g0) :: undef :: (.int .u8 0) :: (.bool false) :: (vP g0) :: (vP g0) :: (vP g0) :: (vP g0) :: (vP g0) :: (vQ g0 3) :: (i6 zn) :: dd u11 11 12 ((.bool b12) :: un 44 ([]))).toArray, []⟩) a ∧ b12 = c13 ∧ St (foots [plE g0 zA zc A0_1 c0_1 zb zg zl zn p0_4 p0_5 p0_6 p0_7 p0_8 p0_9 p0_10 p0_11]) w0 w [plE g0 zA zc A0_1 c0_1 zb zg zl zn p0_4 p0_5 p0_6 p0_7 p0_8 p0_9 p0_10 p0_11]) 46 #[true, true, true, true, true, true, true, true, true, true, true, true, true, true, true, true, true, true, true, true, false, false, false, false, false, false, false, false, false, false, false, false, false, false, false, false, false, false, false, false, false, false, false, false, false, false, false, false, false, false, false, false, false, false, false, false, false, false, false, false, false, false, false, false, false, false] ?_ ?_
 rintro _ w9 ⟨b12, hq16, rfl, hS10⟩
 obtain ⟨u11, rfl⟩ := selfA_u hq16
 try dsimp only at hO15
 obtain ⟨c36, hE37, hO38⟩ := bind_in hO15
 refine gd_mid (fun a w => ∃ (b35 : Bool), selfA (fun u34 => ⟨((vP g0) :: undef :: (.int .u8 0) :: (.bool false) :: (vP g0) :: (vP g0) :: (vP g0) :: (vP g0) :: (vP g0) :: (vQ g0 3) :: (i6 zn) :: dd u11 11 12 ((.bool b12) :: dd u34 24 21 ((.bool b35) :: un 22 ([])))).toArray, []⟩) a ∧ b35 = c36 ∧ St (foots [plE g0 zA zc A0_1 c0_1 zb zg zl zn p0_4 p0_5 p0_6 p0_7 p0_8 p0_9 p0_10 p0_11]) w0 w [plE g0 zA zc A0_1 c0_1 zb zg zl zn p0_4 p0_5 p0_6 p0_7 p0_8 p0_9 p0_10 p0_11]) 24 #[true, true, true, true, true, true, true, true, true, true, true, true, true, true, true, true, true, true, true, true, true, true, true, true, true, true, true, true, true, true, true, true, true, true, true, true, true, true, true, true, true, true, false, false, false, false, false, false, false, false, false, false, false, false, false, false, false, false, false, false, false, false, false, false, false, false] ?_ ?_
 rintro _ w32 ⟨b35, hq39, rfl, hS33⟩
 obtain ⟨u34, rfl⟩ := selfA_u hq39
 try dsimp only at hO38
 refine gv1 42 46 (.bool b35) rfl hS33 ?_
 rcases b35 with _ | _
 try dsimp only at hO38
 refine gv1 43 47 (vP g0) rfl hS33 (gv1 44 48 (vP g0) rfl hS33 (gv1 45 49 (vP g0) rfl hS33 (gv1 46 50 (vP g0) rfl hS33 (gv1 47 51 (vP g0) rfl hS33 (gv1 48 52 (vQ g0 3) rfl hS33 (gu1 49 53 (i6 zn) rfl hS33 (fun w hSw => rl1 (hSw.box 0 rfl 3 rfl)) (gdR 50 ⟨some 54, _, _, _, _, _⟩ rfl (st_made .u8 5 [35, 37] hS33 (by show 2 ≤ 1000000000; decide) (by kernel_rfl)) ?_)))))))
 rintro _ w66 ⟨rfl, hS67⟩
 have hS67 : St _ _ w66 [plE g0 zA zc A0_1 c0_1 zb zg zl zn p0_4 p0_5 p0_6 p0_7 p0_8 p0_9 p0_10 p0_11, rowE .u8 5 (some ⟨w32.heap.size, 0, none⟩) 2 ([35, 37])] := hS67
 refine ⟨(hS67.pick [0] rfl rfl), ?_⟩
 have hP68 : St _ _ w66 ([plE g0 zA zc A0_1 c0_1 zb zg zl zn p0_4 p0_5 p0_6 p0_7 p0_8 p0_9 p0_10 p0_11] ++ [rowE .u8 5 (some ⟨w32.heap.size, 0, none⟩) 2 ([35, 37])]) := hS67
 obtain ⟨b70, hc69, hO38⟩ := bind_in hO38
 try dsimp only at hO38
 refine gdC 51 ⟨some 55, _, _, _, _, _⟩ _ rfl (by kernel_rfl) (pIs_ok N zb zg zl zn p0_4 p0_5 p0_6 p0_7 p0_8 p0_9 p0_10 p0_11 zn ([35, 37]) g0 zA zc A0_1 c0_1 (some ⟨w32.heap.size, 0, none⟩) 2 _ hc69 w66 (hP68.vwA hv0_0) (hP68.vwA hv0_1) (hP68.vwB 0 rfl) hP68.part) ?_
 rintro _ w71 ⟨rfl, hT73⟩
 have hS72 : St _ _ w71 [rowE .u8 5 (some ⟨w32.heap.size, 0, none⟩) 2 ([35, 37]), plE g0 zA zc A0_1 c0_1 zb zg zl zn p0_4 p0_5 p0_6 p0_7 p0_8 p0_9 p0_10 p0_11] := hP68.lendN _ hT73
 refine ⟨(hS72.pick [1] rfl rfl), gv1 52 56 (.bool b70) rfl (hS72.pick [1] rfl rfl) ?_⟩
 rcases b70 with _ | _
 try dsimp only at hO38
 refine gz1 53 57 rfl (hS72.pick [1] rfl rfl) (gz1 54 58 rfl (hS72.pick [1] rfl rfl) (gz1 55 59 rfl (hS72.pick [1] rfl rfl) (gz1 56 60 rfl (hS72.pick [1] rfl rfl) (gz1 57 61 rfl (hS72.pick [1] rfl rfl) (gz1 58 62 rfl (hS72.pick [1] rfl rfl) (gz1 59 63 rfl (hS72.pick [1] rfl rfl) (gz1 60 64 rfl (hS72.pick [1] rfl rfl) ?_)))))))
 refine gz1 61 65 rfl (hS72.pick [1] rfl rfl) (gv1 62 66 (.bool false) rfl (hS72.pick [1] rfl rfl) (gv1 63 67 (.bool false) rfl (hS72.pick [1] rfl rfl) (gv1 64 2 (.int .u8 0) rfl (hS72.pick [1] rfl rfl) (gv1 65 3 (.bool false) rfl (hS72.pick [1] rfl rfl) (gd_done (by kernel_rfl) (gx_thenN (hK4 _ _ ?_)))))))
 refine gx_ret ?_
 obtain rfl := sj hO38
 exact gxF (.tuple #[.int .u8 0, .bool false]) ⟨_, rfl, rfl, (hS72.pick [1] rfl rfl)⟩
 try dsimp only at hO38
 refine gv1 53 57 (vP g0) rfl (hS72.pick [1] rfl rfl) (gv1 54 58 (vP g0) rfl (hS72.pick [1] rfl rfl) (gv1 55 59 (vP g0) rfl (hS72.pick [1] rfl rfl) (gv1 56 60 (vP g0) rfl (hS72.pick [1] rfl rfl) (gv1 57 61 (vP g0) rfl (hS72.pick [1] rfl rfl) (gv1 58 62 (vQ g0 4) rfl (hS72.pick [1] rfl rfl) (gu1 59 63 (i6 p0_4) rfl (hS72.pick [1] rfl rfl) (fun w hSw => rl1 (hSw.box 0 rfl 4 rfl)) (gdR 60 ⟨some 64, _, _, _, _, _⟩ rfl (st_made .u8 5 [35] hS72 (by show 1 ≤ 1000000000; decide) (by kernel_rfl)) ?_)))))))
 rintro _ w74 ⟨rfl, hS75⟩
 have hS75 : St _ _ w74 [rowE .u8 5 (some ⟨w32.heap.size, 0, none⟩) 2 ([35, 37]), plE g0 zA zc A0_1 c0_1 zb zg zl zn p0_4 p0_5 p0_6 p0_7 p0_8 p0_9 p0_10 p0_11, rowE .u8 5 (some ⟨w71.heap.size, 0, none⟩) 1 ([35])] := hS75
 refine ⟨(hS75.pick [1] rfl rfl), ?_⟩
 have hP76 : St _ _ w74 ([plE g0 zA zc A0_1 c0_1 zb zg zl zn p0_4 p0_5 p0_6 p0_7 p0_8 p0_9 p0_10 p0_11] ++ [rowE .u8 5 (some ⟨w32.heap.size, 0, none⟩) 2 ([35, 37]), rowE .u8 5 (some ⟨w71.heap.size, 0, none⟩) 1 ([35])]) := hS75.pick [1, 0, 2] rfl rfl
 obtain ⟨b78, hc77, hO38⟩ := bind_in hO38
 try dsimp only at hO38
 refine gdC 61 ⟨some 65, _, _, _, _, _⟩ _ rfl (by kernel_rfl) (pIs_ok N zb zg zl zn p0_4 p0_5 p0_6 p0_7 p0_8 p0_9 p0_10 p0_11 p0_4 ([35]) g0 zA zc A0_1 c0_1 (some ⟨w71.heap.size, 0, none⟩) 1 _ hc77 w74 (hP76.vwA hv0_0) (hP76.vwA hv0_1) (hP76.vwB 1 rfl) hP76.part) ?_
 rintro _ w79 ⟨rfl, hT81⟩
 have hS80 : St _ _ w79 [rowE .u8 5 (some ⟨w32.heap.size, 0, none⟩) 2 ([35, 37]), rowE .u8 5 (some ⟨w71.heap.size, 0, none⟩) 1 ([35]), plE g0 zA zc A0_1 c0_1 zb zg zl zn p0_4 p0_5 p0_6 p0_7 p0_8 p0_9 p0_10 p0_11] := hP76.lendN _ hT81
 refine ⟨(hS80.pick [2] rfl rfl), gv1 62 66 (.bool b78) rfl (hS80.pick [2] rfl rfl) (gv1 63 67 (.bool b78) rfl (hS80.pick [2] rfl rfl) (gv1 64 2 (.int .u8 0) rfl (hS80.pick [2] rfl rfl) (gv1 65 3 (.bool b78) rfl (hS80.pick [2] rfl rfl) (gd_done (by kernel_rfl) (gx_thenN (hK4 _ _ ?_))))))⟩
 refine gx_ret ?_
 obtain rfl := sj hO38
 exact gxF (.tuple #[.int .u8 0, .bool b78]) ⟨_, rfl, rfl, (hS80.pick [2] rfl rfl)⟩
 try dsimp only at hO38
 refine gz1 43 47 rfl hS33 (gz1 44 48 rfl hS33 (gz1 45 49 rfl hS33 (gz1 46 50 rfl hS33 (gz1 47 51 rfl hS33 (gz1 48 52 rfl hS33 (gz1 49 53 rfl hS33 (gz1 50 54 rfl hS33 ?_)))))))
 refine gz1 51 55 rfl hS33 (gz1 52 56 rfl hS33 (gz1 53 57 rfl hS33 (gz1 54 58 rfl hS33 (gz1 55 59 rfl hS33 (gz1 56 60 rfl hS33 (gz1 57 61 rfl hS33 (gz1 58 62 rfl hS33 ?_)))))))
 refine gz1 59 63 rfl hS33 (gz1 60 64 rfl hS33 (gz1 61 65 rfl hS33 (gz1 62 66 rfl hS33 (gv1 63 67 (.bool true) rfl hS33 (gv1 64 2 (.int .u8 0) rfl hS33 (gv1 65 3 (.bool true) rfl hS33 (gd_done (by kernel_rfl) ?_)))))))
 refine gx_thenN (hK4 _ _ (gx_ret ?_))
 obtain rfl := sj hO38
 exact gxF (.tuple #[.int .u8 0, .bool true]) ⟨_, rfl, rfl, hS33⟩
 intro hK40
 refine gv1 20 24 (.bool b12) rfl hS10 ?_
 rcases b12 with _ | _
 try dsimp only at hE37
 refine gv1 21 25 (vP g0) rfl hS10 (gv1 22 26 (vP g0) rfl hS10 (gv1 23 27 (vP g0) rfl hS10 (gv1 24 28 (vP g0) rfl hS10 (gv1 25 29 (vP g0) rfl hS10 (gv1 26 30 (vQ g0 3) rfl hS10 (gu1 27 31 (i6 zn) rfl hS10 (fun w hSw => rl1 (hSw.box 0 rfl 3 rfl)) (gdR 28 ⟨some 32, _, _, _, _, _⟩ rfl (st_made .u8 5 [34, 36] hS10 (by show 2 ≤ 1000000000; decide) (by kernel_rfl)) ?_)))))))
 rintro _ w41 ⟨rfl, hS42⟩
 have hS42 : St _ _ w41 [plE g0 zA zc A0_1 c0_1 zb zg zl zn p0_4 p0_5 p0_6 p0_7 p0_8 p0_9 p0_10 p0_11, rowE .u8 5 (some ⟨w9.heap.size, 0, none⟩) 2 ([34, 36])] := hS42
 refine ⟨(hS42.pick [0] rfl rfl), ?_⟩
 obtain ⟨c47, hE48, hO49⟩ := bind_in hE37
 refine gd_mid (fun a w => ∃ (b46 : Bool), selfA (fun u45 => ⟨((vP g0) :: undef :: (.int .u8 0) :: (.bool false) :: (vP g0) :: (vP g0) :: (vP g0) :: (vP g0) :: (vP g0) :: (vQ g0 3) :: (i6 zn) :: dd u11 11 12 ((.bool false) :: (.bool false) :: (vP g0) :: (vP g0) :: (vP g0) :: (vP g0) :: (vP g0) :: (vQ g0 3) :: (i6 zn) :: dd u45 32 12 ((.bool b46) :: un 23 ([])))).toArray, []⟩) a ∧ b46 = c47 ∧ St (foots [plE g0 zA zc A0_1 c0_1 zb zg zl zn p0_4 p0_5 p0_6 p0_7 p0_8 p0_9 p0_10 p0_11]) w0 w [plE g0 zA zc A0_1 c0_1 zb zg zl zn p0_4 p0_5 p0_6 p0_7 p0_8 p0_9 p0_10 p0_11]) 25 #[true, true, true, true, true, true, true, true, true, true, true, true, true, true, true, true, true, true, true, true, true, true, true, true, true, true, true, true, true, true, true, true, true, true, true, true, true, true, true, true, true, false, false, false, false, false, false, false, false, false, false, false, false, false, false, false, false, false, false, false, false, false, false, false, false, false] ?_ ?_
 rintro _ w43 ⟨b46, hq50, rfl, hS44⟩
 obtain ⟨u45, rfl⟩ := selfA_u hq50
 try dsimp only at hO49
 refine gv1 41 45 (.bool b46) rfl hS44 ?_
 exact gd_to hK40 (by kernel_rfl) ⟨b46, selfA_i (by kernel_rfl), (sj hO49), hS44⟩
 intro hK51
 have hP52 : St _ _ w41 ([plE g0 zA zc A0_1 c0_1 zb zg zl zn p0_4 p0_5 p0_6 p0_7 p0_8 p0_9 p0_10 p0_11] ++ [rowE .u8 5 (some ⟨w9.heap.size, 0, none⟩) 2 ([34, 36])]) := hS42
 obtain ⟨b54, hc53, hE48⟩ := bind_in hE48
 try dsimp only at hE48
 refine gdC 29 ⟨some 33, _, _, _, _, _⟩ _ rfl (by kernel_rfl) (pIs_ok N zb zg zl zn p0_4 p0_5 p0_6 p0_7 p0_8 p0_9 p0_10 p0_11 zn ([34, 36]) g0 zA zc A0_1 c0_1 (some ⟨w9.heap.size, 0, none⟩) 2 _ hc53 w41 (hP52.vwA hv0_0) (hP52.vwA hv0_1) (hP52.vwB 0 rfl) hP52.part) ?_
 rintro _ w55 ⟨rfl, hT57⟩
 have hS56 : St _ _ w55 [rowE .u8 5 (some ⟨w9.heap.size, 0, none⟩) 2 ([34, 36]), plE g0 zA zc A0_1 c0_1 zb zg zl zn p0_4 p0_5 p0_6 p0_7 p0_8 p0_9 p0_10 p0_11] := hP52.lendN _ hT57
 refine ⟨(hS56.pick [1] rfl rfl), gv1 30 34 (.bool b54) rfl (hS56.pick [1] rfl rfl) ?_⟩
 rcases b54 with _ | _
 try dsimp only at hE48
 refine gz1 31 35 rfl (hS56.pick [1] rfl rfl) (gz1 32 36 rfl (hS56.pick [1] rfl rfl) (gz1 33 37 rfl (hS56.pick [1] rfl rfl) (gz1 34 38 rfl (hS56.pick [1] rfl rfl) (gz1 35 39 rfl (hS56.pick [1] rfl rfl) (gz1 36 40 rfl (hS56.pick [1] rfl rfl) (gz1 37 41 rfl (hS56.pick [1] rfl rfl) (gz1 38 42 rfl (hS56.pick [1] rfl rfl) ?_)))))))
 refine gz1 39 43 rfl (hS56.pick [1] rfl rfl) (gv1 40 44 (.bool false) rfl (hS56.pick [1] rfl rfl) ?_)
 exact gd_to hK51 (by kernel_rfl) ⟨false, selfA_i (by kernel_rfl), (sj hE48), (hS56.pick [1] rfl rfl)⟩
 try dsimp only at hE48
 refine gv1 31 35 (vP g0) rfl (hS56.pick [1] rfl rfl) (gv1 32 36 (vP g0) rfl (hS56.pick [1] rfl rfl) (gv1 33 37 (vP g0) rfl (hS56.pick [1] rfl rfl) (gv1 34 38 (vP g0) rfl (hS56.pick [1] rfl rfl) (gv1 35 39 (vP g0) rfl (hS56.pick [1] rfl rfl) (gv1 36 40 (vQ g0 4) rfl (hS56.pick [1] rfl rfl) (gu1 37 41 (i6 p0_4) rfl (hS56.pick [1] rfl rfl) (fun w hSw => rl1 (hSw.box 0 rfl 4 rfl)) (gdR 38 ⟨some 42, _, _, _, _, _⟩ rfl (st_made .u8 5 [34, 35] hS56 (by show 2 ≤ 1000000000; decide) (by kernel_rfl)) ?_)))))))
 rintro _ w58 ⟨rfl, hS59⟩
 have hS59 : St _ _ w58 [rowE .u8 5 (some ⟨w9.heap.size, 0, none⟩) 2 ([34, 36]), plE g0 zA zc A0_1 c0_1 zb zg zl zn p0_4 p0_5 p0_6 p0_7 p0_8 p0_9 p0_10 p0_11, rowE .u8 5 (some ⟨w55.heap.size, 0, none⟩) 2 ([34, 35])] := hS59
 refine ⟨(hS59.pick [1] rfl rfl), ?_⟩
 have hP60 : St _ _ w58 ([plE g0 zA zc A0_1 c0_1 zb zg zl zn p0_4 p0_5 p0_6 p0_7 p0_8 p0_9 p0_10 p0_11] ++ [rowE .u8 5 (some ⟨w9.heap.size, 0, none⟩) 2 ([34, 36]), rowE .u8 5 (some ⟨w55.heap.size, 0, none⟩) 2 ([34, 35])]) := hS59.pick [1, 0, 2] rfl rfl
 obtain ⟨b62, hc61, hE48⟩ := bind_in hE48
 try dsimp only at hE48
 refine gdC 39 ⟨some 43, _, _, _, _, _⟩ _ rfl (by kernel_rfl) (pIs_ok N zb zg zl zn p0_4 p0_5 p0_6 p0_7 p0_8 p0_9 p0_10 p0_11 p0_4 ([34, 35]) g0 zA zc A0_1 c0_1 (some ⟨w55.heap.size, 0, none⟩) 2 _ hc61 w58 (hP60.vwA hv0_0) (hP60.vwA hv0_1) (hP60.vwB 1 rfl) hP60.part) ?_
 rintro _ w63 ⟨rfl, hT65⟩
 have hS64 : St _ _ w63 [rowE .u8 5 (some ⟨w9.heap.size, 0, none⟩) 2 ([34, 36]), rowE .u8 5 (some ⟨w55.heap.size, 0, none⟩) 2 ([34, 35]), plE g0 zA zc A0_1 c0_1 zb zg zl zn p0_4 p0_5 p0_6 p0_7 p0_8 p0_9 p0_10 p0_11] := hP60.lendN _ hT65
 refine ⟨(hS64.pick [2] rfl rfl), gv1 40 44 (.bool b62) rfl (hS64.pick [2] rfl rfl) ?_⟩
 exact gd_to hK51 (by kernel_rfl) ⟨b62, selfA_i (by kernel_rfl), (sj hE48), (hS64.pick [2] rfl rfl)⟩
 try dsimp only at hE37
 refine gz1 21 25 rfl hS10 (gz1 22 26 rfl hS10 (gz1 23 27 rfl hS10 (gz1 24 28 rfl hS10 (gz1 25 29 rfl hS10 (gz1 26 30 rfl hS10 (gz1 27 31 rfl hS10 (gz1 28 32 rfl hS10 ?_)))))))
 refine gz1 29 33 rfl hS10 (gz1 30 34 rfl hS10 (gz1 31 35 rfl hS10 (gz1 32 36 rfl hS10 (gz1 33 37 rfl hS10 (gz1 34 38 rfl hS10 (gz1 35 39 rfl hS10 (gz1 36 40 rfl hS10 ?_)))))))
 refine gz1 37 41 rfl hS10 (gz1 38 42 rfl hS10 (gz1 39 43 rfl hS10 (gz1 40 44 rfl hS10 (gv1 41 45 (.bool true) rfl hS10 ?_))))
 exact gd_to hK40 (by kernel_rfl) ⟨true, selfA_i (by kernel_rfl), (sj hE37), hS10⟩
 intro hK17
 have hP18 : St _ _ w7 ([plE g0 zA zc A0_1 c0_1 zb zg zl zn p0_4 p0_5 p0_6 p0_7 p0_8 p0_9 p0_10 p0_11] ++ [rowE .u8 5 (some ⟨w5.heap.size, 0, none⟩) 1 ([33])]) := hS8
 obtain ⟨b20, hc19, hE14⟩ := bind_in hE14
 try dsimp only at hE14
 refine gdC 8 ⟨some 12, _, _, _, _, _⟩ _ rfl (by kernel_rfl) (pIs_ok N zb zg zl zn p0_4 p0_5 p0_6 p0_7 p0_8 p0_9 p0_10 p0_11 zn ([33]) g0 zA zc A0_1 c0_1 (some ⟨w5.heap.size, 0, none⟩) 1 _ hc19 w7 (hP18.vwA hv0_0) (hP18.vwA hv0_1) (hP18.vwB 0 rfl) hP18.part) ?_
 rintro _ w21 ⟨rfl, hT23⟩
 have hS22 : St _ _ w21 [rowE .u8 5 (some ⟨w5.heap.size, 0, none⟩) 1 ([33]), plE g0 zA zc A0_1 c0_1 zb zg zl zn p0_4 p0_5 p0_6 p0_7 p0_8 p0_9 p0_10 p0_11] := hP18.lendN _ hT23
 refine ⟨(hS22.pick [1] rfl rfl), gv1 9 13 (.bool b20) rfl (hS22.pick [1] rfl rfl) ?_⟩
 rcases b20 with _ | _
 try dsimp only at hE14
 refine gz1 10 14 rfl (hS22.pick [1] rfl rfl) (gz1 11 15 rfl (hS22.pick [1] rfl rfl) (gz1 12 16 rfl (hS22.pick [1] rfl rfl) (gz1 13 17 rfl (hS22.pick [1] rfl rfl) (gz1 14 18 rfl (hS22.pick [1] rfl rfl) (gz1 15 19 rfl (hS22.pick [1] rfl rfl) (gz1 16 20 rfl (hS22.pick [1] rfl rfl) (gz1 17 21 rfl (hS22.pick [1] rfl rfl) ?_)))))))
 refine gz1 18 22 rfl (hS22.pick [1] rfl rfl) (gv1 19 23 (.bool false) rfl (hS22.pick [1] rfl rfl) ?_)
 exact gd_to hK17 (by kernel_rfl) ⟨false, selfA_i (by kernel_rfl), (sj hE14), (hS22.pick [1] rfl rfl)⟩
 try dsimp only at hE14
 refine gv1 10 14 (vP g0) rfl (hS22.pick [1] rfl rfl) (gv1 11 15 (vP g0) rfl (hS22.pick [1] rfl rfl) (gv1 12 16 (vP g0) rfl (hS22.pick [1] rfl rfl) (gv1 13 17 (vP g0) rfl (hS22.pick [1] rfl rfl) (gv1 14 18 (vP g0) rfl (hS22.pick [1] rfl rfl) (gv1 15 19 (vQ g0 4) rfl (hS22.pick [1] rfl rfl) (gu1 16 20 (i6 p0_4) rfl (hS22.pick [1] rfl rfl) (fun w hSw => rl1 (hSw.box 0 rfl 4 rfl)) (gdR 17 ⟨some 21, _, _, _, _, _⟩ rfl (st_made .u8 5 [33, 34, 36, 37] hS22 (by show 4 ≤ 1000000000; decide) (by kernel_rfl)) ?_)))))))
 rintro _ w24 ⟨rfl, hS25⟩
 have hS25 : St _ _ w24 [rowE .u8 5 (some ⟨w5.heap.size, 0, none⟩) 1 ([33]), plE g0 zA zc A0_1 c0_1 zb zg zl zn p0_4 p0_5 p0_6 p0_7 p0_8 p0_9 p0_10 p0_11, rowE .u8 5 (some ⟨w21.heap.size, 0, none⟩) 4 ([33, 34, 36, 37])] := hS25
 refine ⟨(hS25.pick [1] rfl rfl), ?_⟩
 have hP26 : St _ _ w24 ([plE g0 zA zc A0_1 c0_1 zb zg zl zn p0_4 p0_5 p0_6 p0_7 p0_8 p0_9 p0_10 p0_11] ++ [rowE .u8 5 (some ⟨w5.heap.size, 0, none⟩) 1 ([33]), rowE .u8 5 (some ⟨w21.heap.size, 0, none⟩) 4 ([33, 34, 36, 37])]) := hS25.pick [1, 0, 2] rfl rfl
 obtain ⟨b28, hc27, hE14⟩ := bind_in hE14
 try dsimp only at hE14
 refine gdC 18 ⟨some 22, _, _, _, _, _⟩ _ rfl (by kernel_rfl) (pIs_ok N zb zg zl zn p0_4 p0_5 p0_6 p0_7 p0_8 p0_9 p0_10 p0_11 p0_4 ([33, 34, 36, 37]) g0 zA zc A0_1 c0_1 (some ⟨w21.heap.size, 0, none⟩) 4 _ hc27 w24 (hP26.vwA hv0_0) (hP26.vwA hv0_1) (hP26.vwB 1 rfl) hP26.part) ?_
 rintro _ w29 ⟨rfl, hT31⟩
 have hS30 : St _ _ w29 [rowE .u8 5 (some ⟨w5.heap.size, 0, none⟩) 1 ([33]), rowE .u8 5 (some ⟨w21.heap.size, 0, none⟩) 4 ([33, 34, 36, 37]), plE g0 zA zc A0_1 c0_1 zb zg zl zn p0_4 p0_5 p0_6 p0_7 p0_8 p0_9 p0_10 p0_11] := hP26.lendN _ hT31
 refine ⟨(hS30.pick [2] rfl rfl), gv1 19 23 (.bool b28) rfl (hS30.pick [2] rfl rfl) ?_⟩
 exact gd_to hK17 (by kernel_rfl) ⟨b28, selfA_i (by kernel_rfl), (sj hE14), (hS30.pick [2] rfl rfl)⟩
end Go.Proofs.YtdbimchiecdkoaaGreat
