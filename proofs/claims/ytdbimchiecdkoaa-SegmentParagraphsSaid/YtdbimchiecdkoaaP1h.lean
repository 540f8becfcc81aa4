/-
  The rules, walked.
-/
import Derived.Test.YtdbimchiecdkoaaPJ
namespace Go.Proofs.Ytdbimchiecdkoaa
open Go Go.RowKit
set_option linter.unusedVariables false
def qWithinFlag (N : Nat) (p0_0 : List Int) (p0_1 : List Int) (p0_2 : Int) (p0_3 : Int) (p0_4 : Int) (p0_5 : Int) (p0_6 : Int) (p0_7 : Int) (p0_8 : Int) (p0_9 : Bool) (p0_10 : Bool) (p0_11 : Bool) : Option (Int × Bool) :=
 (match p0_11 with | true => ((pIs N p0_0 p0_1 p0_2 p0_3 p0_4 p0_5 p0_6 p0_7 p0_8 p0_9 p0_10 true p0_4 ([32])).bind fun b11 => some (0, b11)) | false => some (0, false))
set_option linter.unusedVariables false in
def qWithinFlag_R (p0_0 : List Int) (p0_1 : List Int) (p0_2 : Int) (p0_3 : Int) (p0_4 : Int) (p0_5 : Int) (p0_6 : Int) (p0_7 : Int) (p0_8 : Int) (p0_9 : Bool) (p0_10 : Bool) (p0_11 : Bool) (g0 : Nat) (A0_0 : Option Addr) (c0_0 : Nat) (A0_1 : Option Addr) (c0_1 : Nat) (r : Int × Bool) (w0 : World) (v : Value) (w : World) : Prop := v = .tuple #[.int .u8 r.1, .bool r.2] ∧ St (foots [plE g0 A0_0 c0_0 A0_1 c0_1 p0_0 p0_1 p0_2 p0_3 p0_4 p0_5 p0_6 p0_7 p0_8 p0_9 p0_10 p0_11]) w0 w [plE g0 A0_0 c0_0 A0_1 c0_1 p0_0 p0_1 p0_2 p0_3 p0_4 p0_5 p0_6 p0_7 p0_8 p0_9 p0_10 p0_11]
set_option maxRecDepth 100000 in
set_option maxHeartbeats 4000000 in
theorem qWithinFlag_ok (N : Nat) (p0_0 : List Int) (p0_1 : List Int) (p0_2 : Int) (p0_3 : Int) (p0_4 : Int) (p0_5 : Int) (p0_6 : Int) (p0_7 : Int) (p0_8 : Int) (p0_9 : Bool) (p0_10 : Bool) (p0_11 : Bool) (g0 : Nat) (A0_0 : Option Addr) (c0_0 : Nat) (A0_1 : Option Addr) (c0_1 : Nat) (r : Int × Bool) (hF : qWithinFlag N p0_0 p0_1 p0_2 p0_3 p0_4 p0_5 p0_6 p0_7 p0_8 p0_9 p0_10 p0_11 = some r) (w0 : World) (hv0_0 : Vw (foots [plE g0 A0_0 c0_0 A0_1 c0_1 p0_0 p0_1 p0_2 p0_3 p0_4 p0_5 p0_6 p0_7 p0_8 p0_9 p0_10 p0_11]) .i32 w0 A0_0 c0_0 p0_0) (hv0_1 : Vw (foots [plE g0 A0_0 c0_0 A0_1 c0_1 p0_0 p0_1 p0_2 p0_3 p0_4 p0_5 p0_6 p0_7 p0_8 p0_9 p0_10 p0_11]) .u8 w0 A0_1 c0_1 p0_1) (hl : St (foots [plE g0 A0_0 c0_0 A0_1 c0_1 p0_0 p0_1 p0_2 p0_3 p0_4 p0_5 p0_6 p0_7 p0_8 p0_9 p0_10 p0_11]) w0 w0 [plE g0 A0_0 c0_0 A0_1 c0_1 p0_0 p0_1 p0_2 p0_3 p0_4 p0_5 p0_6 p0_7 p0_8 p0_9 p0_10 p0_11]) :
  Calls Try.prog 76 #[.pointer (some ⟨g0, 0, none⟩)] w0 fun e w => ∃ v, e = .returned v ∧ qWithinFlag_R p0_0 p0_1 p0_2 p0_3 p0_4 p0_5 p0_6 p0_7 p0_8 p0_9 p0_10 p0_11 g0 A0_0 c0_0 A0_1 c0_1 r w0 v w := by
 have hS0 := hl
 unfold qWithinFlag at hF
 refine calls_of Try.func76 rfl ⟨((.pointer (some ⟨g0, 0, none⟩)) :: un 18 ([])).toArray, []⟩ (by kernel_rfl) ?_
 refine gx_seq (fun K1 hK2 => ?_)
 refine gx_region ?_
 refine gx_k (.int .u8 0) w0 (gx_k (.bool false) w0 ?_)
 refine gx_nil ?_
 refine gx_thenN ?_
 refine hK2 _ _ ?_
 refine gx_seq (fun K3 hK4 => ?_)
 refine gd_start (fun w => St (foots [plE g0 A0_0 c0_0 A0_1 c0_1 p0_0 p0_1 p0_2 p0_3 p0_4 p0_5 p0_6 p0_7 p0_8 p0_9 p0_10 p0_11]) w0 w [plE g0 A0_0 c0_0 A0_1 c0_1 p0_0 p0_1 p0_2 p0_3 p0_4 p0_5 p0_6 p0_7 p0_8 p0_9 p0_10 p0_11]) 17 #[false, false, false, false, false, false, false, false, false, false, false, false, false, false, false, false, false] (by kernel_rfl) (by kernel_rfl) ?_
 have hS6 := hS0.drew
 generalize w0.drew = w5 at hS6 ⊢
 refine gv1 0 4 (.pointer (some ⟨g0, 0, none⟩)) rfl hS6 ?_
 refine gv1 1 5 (.pointer (some ⟨g0, 0, none⟩)) rfl hS6 ?_
 refine gv1 2 6 (.pointer (some ⟨g0, 11, none⟩)) rfl hS6 ?_
 refine gu1 3 7 (.bool p0_11) rfl hS6 (fun w hSw => run_load1 rfl (by kernel_rfl) (fun _ => by kernel_rfl) (hSw.box 0 rfl 11 rfl)) ?_
 refine gv1 4 8 (.bool p0_11) rfl hS6 ?_
 cases p0_11 with
 | true =>
  try dsimp only at hF
  refine gv1 5 9 (.pointer (some ⟨g0, 0, none⟩)) rfl hS6 ?_
  refine gv1 6 10 (.pointer (some ⟨g0, 0, none⟩)) rfl hS6 ?_
  refine gv1 7 11 (.pointer (some ⟨g0, 0, none⟩)) rfl hS6 ?_
  refine gv1 8 12 (.pointer (some ⟨g0, 0, none⟩)) rfl hS6 ?_
  refine gv1 9 13 (.pointer (some ⟨g0, 0, none⟩)) rfl hS6 ?_
  refine gv1 10 14 (.pointer (some ⟨g0, 4, none⟩)) rfl hS6 ?_
  refine gu1 11 15 (.int .i64 p0_4) rfl hS6 (fun w hSw => run_load1 rfl (by kernel_rfl) (fun _ => by kernel_rfl) (hSw.box 0 rfl 4 rfl)) ?_
  refine gdR 12 { dst := some 16, op := _, type := _, pos := _, after := _, guard := _ } rfl (st_made .u8 5 [32] hS6 (by show 1 ≤ 1000000000; decide) (by kernel_rfl)) ?_
  rintro _ w7 ⟨rfl, hS8⟩
  have hS8 : St _ _ w7 [boxE g0 [.slice A0_0 p0_0.length c0_0, .slice A0_1 p0_1.length c0_1, .int .i64 p0_2, .int .i64 p0_3, .int .i64 p0_4, .int .i64 p0_5, .int .i64 p0_6, .int .i64 p0_7, .int .i64 p0_8, .bool p0_9, .bool p0_10, .bool true] 49, rowE .u8 5 (some ⟨w5.heap.size, 0, none⟩) 1 ([32])] := hS8
  refine ⟨(hS8.pick [0] rfl rfl), ?_⟩
  have hP9 : St _ _ w7 ([boxE g0 [.slice A0_0 p0_0.length c0_0, .slice A0_1 p0_1.length c0_1, .int .i64 p0_2, .int .i64 p0_3, .int .i64 p0_4, .int .i64 p0_5, .int .i64 p0_6, .int .i64 p0_7, .int .i64 p0_8, .bool p0_9, .bool p0_10, .bool true] 49] ++ [rowE .u8 5 (some ⟨w5.heap.size, 0, none⟩) 1 ([32])]) := hS8
  obtain ⟨b11, hc10, hF⟩ := bind_in hF
  try dsimp only at hF
  refine gdC 13 { dst := some 17, op := _, type := _, pos := _, after := _, guard := _ } (pIs_R p0_0 p0_1 p0_2 p0_3 p0_4 p0_5 p0_6 p0_7 p0_8 p0_9 p0_10 true p0_4 ([32]) g0 A0_0 c0_0 A0_1 c0_1 (some ⟨w5.heap.size, 0, none⟩) 1 b11 w7) rfl (by kernel_rfl) (pIs_ok N p0_0 p0_1 p0_2 p0_3 p0_4 p0_5 p0_6 p0_7 p0_8 p0_9 p0_10 true p0_4 ([32]) g0 A0_0 c0_0 A0_1 c0_1 (some ⟨w5.heap.size, 0, none⟩) 1 _ hc10 w7 (hP9.vwA hv0_0) (hP9.vwA hv0_1) (hP9.vwB 0 rfl) hP9.part) ?_
  rintro _ w12 ⟨rfl, hT14⟩
  have hS13 : St _ _ w12 [rowE .u8 5 (some ⟨w5.heap.size, 0, none⟩) 1 ([32]), boxE g0 [.slice A0_0 p0_0.length c0_0, .slice A0_1 p0_1.length c0_1, .int .i64 p0_2, .int .i64 p0_3, .int .i64 p0_4, .int .i64 p0_5, .int .i64 p0_6, .int .i64 p0_7, .int .i64 p0_8, .bool p0_9, .bool p0_10, .bool true] 49] := hP9.lendN _ hT14
  refine ⟨(hS13.pick [1] rfl rfl), ?_⟩
  refine gv1 14 18 (.bool b11) rfl (hS13.pick [1] rfl rfl) ?_
  refine gv1 15 2 (.int .u8 0) rfl (hS13.pick [1] rfl rfl) ?_
  refine gv1 16 3 (.bool b11) rfl (hS13.pick [1] rfl rfl) ?_
  refine gd_done (by kernel_rfl) ?_
  refine gx_thenN ?_
  refine hK4 _ _ ?_
  refine gx_ret ?_
  obtain rfl := Option.some.inj hF
  exact gx_fin (.tuple #[.int .u8 0, .bool b11]) (by kernel_rfl) (by kernel_rfl) ⟨_, rfl, rfl, (hS13.pick [1] rfl rfl)⟩
 | false =>
  try dsimp only at hF
  refine gz1 5 9 rfl hS6 ?_
  refine gz1 6 10 rfl hS6 ?_
  refine gz1 7 11 rfl hS6 ?_
  refine gz1 8 12 rfl hS6 ?_
  refine gz1 9 13 rfl hS6 ?_
  refine gz1 10 14 rfl hS6 ?_
  refine gz1 11 15 rfl hS6 ?_
  refine gz1 12 16 rfl hS6 ?_
  refine gz1 13 17 rfl hS6 ?_
  refine gv1 14 18 (.bool false) rfl hS6 ?_
  refine gv1 15 2 (.int .u8 0) rfl hS6 ?_
  refine gv1 16 3 (.bool false) rfl hS6 ?_
  refine gd_done (by kernel_rfl) ?_
  refine gx_thenN ?_
  refine hK4 _ _ ?_
  refine gx_ret ?_
  obtain rfl := Option.some.inj hF
  exact gx_fin (.tuple #[.int .u8 0, .bool false]) (by kernel_rfl) (by kernel_rfl) ⟨_, rfl, rfl, hS6⟩
def qWithinPicture (N : Nat) (p0_0 : List Int) (p0_1 : List Int) (p0_2 : Int) (p0_3 : Int) (p0_4 : Int) (p0_5 : Int) (p0_6 : Int) (p0_7 : Int) (p0_8 : Int) (p0_9 : Bool) (p0_10 : Bool) (p0_11 : Bool) : Option (Int × Bool) :=
 ((pIs N p0_0 p0_1 p0_2 p0_3 p0_4 p0_5 p0_6 p0_7 p0_8 p0_9 p0_10 p0_11 p0_3 ([30])).bind fun b11 => (match b11 with | true => ((pIs N p0_0 p0_1 p0_2 p0_3 p0_4 p0_5 p0_6 p0_7 p0_8 p0_9 p0_10 p0_11 p0_4 ([31])).bind fun b19 => some (0, b19)) | false => some (0, false)))
set_option linter.unusedVariables false in
def qWithinPicture_R (p0_0 : List Int) (p0_1 : List Int) (p0_2 : Int) (p0_3 : Int) (p0_4 : Int) (p0_5 : Int) (p0_6 : Int) (p0_7 : Int) (p0_8 : Int) (p0_9 : Bool) (p0_10 : Bool) (p0_11 : Bool) (g0 : Nat) (A0_0 : Option Addr) (c0_0 : Nat) (A0_1 : Option Addr) (c0_1 : Nat) (r : Int × Bool) (w0 : World) (v : Value) (w : World) : Prop := v = .tuple #[.int .u8 r.1, .bool r.2] ∧ St (foots [plE g0 A0_0 c0_0 A0_1 c0_1 p0_0 p0_1 p0_2 p0_3 p0_4 p0_5 p0_6 p0_7 p0_8 p0_9 p0_10 p0_11]) w0 w [plE g0 A0_0 c0_0 A0_1 c0_1 p0_0 p0_1 p0_2 p0_3 p0_4 p0_5 p0_6 p0_7 p0_8 p0_9 p0_10 p0_11]
set_option maxRecDepth 100000 in
set_option maxHeartbeats 4000000 in
theorem qWithinPicture_ok (N : Nat) (p0_0 : List Int) (p0_1 : List Int) (p0_2 : Int) (p0_3 : Int) (p0_4 : Int) (p0_5 : Int) (p0_6 : Int) (p0_7 : Int) (p0_8 : Int) (p0_9 : Bool) (p0_10 : Bool) (p0_11 : Bool) (g0 : Nat) (A0_0 : Option Addr) (c0_0 : Nat) (A0_1 : Option Addr) (c0_1 : Nat) (r : Int × Bool) (hF : qWithinPicture N p0_0 p0_1 p0_2 p0_3 p0_4 p0_5 p0_6 p0_7 p0_8 p0_9 p0_10 p0_11 = some r) (w0 : World) (hv0_0 : Vw (foots [plE g0 A0_0 c0_0 A0_1 c0_1 p0_0 p0_1 p0_2 p0_3 p0_4 p0_5 p0_6 p0_7 p0_8 p0_9 p0_10 p0_11]) .i32 w0 A0_0 c0_0 p0_0) (hv0_1 : Vw (foots [plE g0 A0_0 c0_0 A0_1 c0_1 p0_0 p0_1 p0_2 p0_3 p0_4 p0_5 p0_6 p0_7 p0_8 p0_9 p0_10 p0_11]) .u8 w0 A0_1 c0_1 p0_1) (hl : St (foots [plE g0 A0_0 c0_0 A0_1 c0_1 p0_0 p0_1 p0_2 p0_3 p0_4 p0_5 p0_6 p0_7 p0_8 p0_9 p0_10 p0_11]) w0 w0 [plE g0 A0_0 c0_0 A0_1 c0_1 p0_0 p0_1 p0_2 p0_3 p0_4 p0_5 p0_6 p0_7 p0_8 p0_9 p0_10 p0_11]) :
  Calls Try.prog 77 #[.pointer (some ⟨g0, 0, none⟩)] w0 fun e w => ∃ v, e = .returned v ∧ qWithinPicture_R p0_0 p0_1 p0_2 p0_3 p0_4 p0_5 p0_6 p0_7 p0_8 p0_9 p0_10 p0_11 g0 A0_0 c0_0 A0_1 c0_1 r w0 v w := by
 have hS0 := hl
 unfold qWithinPicture at hF
 refine calls_of Try.func77 rfl ⟨((.pointer (some ⟨g0, 0, none⟩)) :: un 23 ([])).toArray, []⟩ (by kernel_rfl) ?_
 refine gx_seq (fun K1 hK2 => ?_)
 refine gx_region ?_
 refine gx_k (.int .u8 0) w0 (gx_k (.bool false) w0 ?_)
 refine gx_nil ?_
 refine gx_thenN ?_
 refine hK2 _ _ ?_
 refine gx_seq (fun K3 hK4 => ?_)
 refine gd_start (fun w => St (foots [plE g0 A0_0 c0_0 A0_1 c0_1 p0_0 p0_1 p0_2 p0_3 p0_4 p0_5 p0_6 p0_7 p0_8 p0_9 p0_10 p0_11]) w0 w [plE g0 A0_0 c0_0 A0_1 c0_1 p0_0 p0_1 p0_2 p0_3 p0_4 p0_5 p0_6 p0_7 p0_8 p0_9 p0_10 p0_11]) 22 #[false, false, false, false, false, false, false, false, false, false, false, false, false, false, false, false, false, false, false, false, false, false] (by kernel_rfl) (by kernel_rfl) ?_
 have hS6 := hS0.drew
 generalize w0.drew = w5 at hS6 ⊢
 refine gv1 0 4 (.pointer (some ⟨g0, 0, none⟩)) rfl hS6 ?_
 refine gv1 1 5 (.pointer (some ⟨g0, 0, none⟩)) rfl hS6 ?_
 refine gv1 2 6 (.pointer (some ⟨g0, 0, none⟩)) rfl hS6 ?_
 refine gv1 3 7 (.pointer (some ⟨g0, 0, none⟩)) rfl hS6 ?_
 refine gv1 4 8 (.pointer (some ⟨g0, 0, none⟩)) rfl hS6 ?_
 refine gv1 5 9 (.pointer (some ⟨g0, 3, none⟩)) rfl hS6 ?_
 refine gu1 6 10 (.int .i64 p0_3) rfl hS6 (fun w hSw => run_load1 rfl (by kernel_rfl) (fun _ => by kernel_rfl) (hSw.box 0 rfl 3 rfl)) ?_
 refine gdR 7 { dst := some 11, op := _, type := _, pos := _, after := _, guard := _ } rfl (st_made .u8 5 [30] hS6 (by show 1 ≤ 1000000000; decide) (by kernel_rfl)) ?_
 rintro _ w7 ⟨rfl, hS8⟩
 have hS8 : St _ _ w7 [plE g0 A0_0 c0_0 A0_1 c0_1 p0_0 p0_1 p0_2 p0_3 p0_4 p0_5 p0_6 p0_7 p0_8 p0_9 p0_10 p0_11, rowE .u8 5 (some ⟨w5.heap.size, 0, none⟩) 1 ([30])] := hS8
 refine ⟨(hS8.pick [0] rfl rfl), ?_⟩
 have hP9 : St _ _ w7 ([plE g0 A0_0 c0_0 A0_1 c0_1 p0_0 p0_1 p0_2 p0_3 p0_4 p0_5 p0_6 p0_7 p0_8 p0_9 p0_10 p0_11] ++ [rowE .u8 5 (some ⟨w5.heap.size, 0, none⟩) 1 ([30])]) := hS8
 obtain ⟨b11, hc10, hF⟩ := bind_in hF
 try dsimp only at hF
 refine gdC 8 { dst := some 12, op := _, type := _, pos := _, after := _, guard := _ } (pIs_R p0_0 p0_1 p0_2 p0_3 p0_4 p0_5 p0_6 p0_7 p0_8 p0_9 p0_10 p0_11 p0_3 ([30]) g0 A0_0 c0_0 A0_1 c0_1 (some ⟨w5.heap.size, 0, none⟩) 1 b11 w7) rfl (by kernel_rfl) (pIs_ok N p0_0 p0_1 p0_2 p0_3 p0_4 p0_5 p0_6 p0_7 p0_8 p0_9 p0_10 p0_11 p0_3 ([30]) g0 A0_0 c0_0 A0_1 c0_1 (some ⟨w5.heap.size, 0, none⟩) 1 _ hc10 w7 (hP9.vwA hv0_0) (hP9.vwA hv0_1) (hP9.vwB 0 rfl) hP9.part) ?_
 rintro _ w12 ⟨rfl, hT14⟩
 have hS13 : St _ _ w12 [rowE .u8 5 (some ⟨w5.heap.size, 0, none⟩) 1 ([30]), plE g0 A0_0 c0_0 A0_1 c0_1 p0_0 p0_1 p0_2 p0_3 p0_4 p0_5 p0_6 p0_7 p0_8 p0_9 p0_10 p0_11] := hP9.lendN _ hT14
 refine ⟨(hS13.pick [1] rfl rfl), ?_⟩
 refine gv1 9 13 (.bool b11) rfl (hS13.pick [1] rfl rfl) ?_
 cases b11 with
 | true =>
  try dsimp only at hF
  refine gv1 10 14 (.pointer (some ⟨g0, 0, none⟩)) rfl (hS13.pick [1] rfl rfl) ?_
  refine gv1 11 15 (.pointer (some ⟨g0, 0, none⟩)) rfl (hS13.pick [1] rfl rfl) ?_
  refine gv1 12 16 (.pointer (some ⟨g0, 0, none⟩)) rfl (hS13.pick [1] rfl rfl) ?_
  refine gv1 13 17 (.pointer (some ⟨g0, 0, none⟩)) rfl (hS13.pick [1] rfl rfl) ?_
  refine gv1 14 18 (.pointer (some ⟨g0, 0, none⟩)) rfl (hS13.pick [1] rfl rfl) ?_
  refine gv1 15 19 (.pointer (some ⟨g0, 4, none⟩)) rfl (hS13.pick [1] rfl rfl) ?_
  refine gu1 16 20 (.int .i64 p0_4) rfl (hS13.pick [1] rfl rfl) (fun w hSw => run_load1 rfl (by kernel_rfl) (fun _ => by kernel_rfl) (hSw.box 0 rfl 4 rfl)) ?_
  refine gdR 17 { dst := some 21, op := _, type := _, pos := _, after := _, guard := _ } rfl (st_made .u8 5 [31] hS13 (by show 1 ≤ 1000000000; decide) (by kernel_rfl)) ?_
  rintro _ w15 ⟨rfl, hS16⟩
  have hS16 : St _ _ w15 [rowE .u8 5 (some ⟨w5.heap.size, 0, none⟩) 1 ([30]), plE g0 A0_0 c0_0 A0_1 c0_1 p0_0 p0_1 p0_2 p0_3 p0_4 p0_5 p0_6 p0_7 p0_8 p0_9 p0_10 p0_11, rowE .u8 5 (some ⟨w12.heap.size, 0, none⟩) 1 ([31])] := hS16
  refine ⟨(hS16.pick [1] rfl rfl), ?_⟩
  have hP17 : St _ _ w15 ([plE g0 A0_0 c0_0 A0_1 c0_1 p0_0 p0_1 p0_2 p0_3 p0_4 p0_5 p0_6 p0_7 p0_8 p0_9 p0_10 p0_11] ++ [rowE .u8 5 (some ⟨w5.heap.size, 0, none⟩) 1 ([30]), rowE .u8 5 (some ⟨w12.heap.size, 0, none⟩) 1 ([31])]) := hS16.pick [1, 0, 2] rfl rfl
  obtain ⟨b19, hc18, hF⟩ := bind_in hF
  try dsimp only at hF
  refine gdC 18 { dst := some 22, op := _, type := _, pos := _, after := _, guard := _ } (pIs_R p0_0 p0_1 p0_2 p0_3 p0_4 p0_5 p0_6 p0_7 p0_8 p0_9 p0_10 p0_11 p0_4 ([31]) g0 A0_0 c0_0 A0_1 c0_1 (some ⟨w12.heap.size, 0, none⟩) 1 b19 w15) rfl (by kernel_rfl) (pIs_ok N p0_0 p0_1 p0_2 p0_3 p0_4 p0_5 p0_6 p0_7 p0_8 p0_9 p0_10 p0_11 p0_4 ([31]) g0 A0_0 c0_0 A0_1 c0_1 (some ⟨w12.heap.size, 0, none⟩) 1 _ hc18 w15 (hP17.vwA hv0_0) (hP17.vwA hv0_1) (hP17.vwB 1 rfl) hP17.part) ?_
  rintro _ w20 ⟨rfl, hT22⟩
  have hS21 : St _ _ w20 [rowE .u8 5 (some ⟨w5.heap.size, 0, none⟩) 1 ([30]), rowE .u8 5 (some ⟨w12.heap.size, 0, none⟩) 1 ([31]), plE g0 A0_0 c0_0 A0_1 c0_1 p0_0 p0_1 p0_2 p0_3 p0_4 p0_5 p0_6 p0_7 p0_8 p0_9 p0_10 p0_11] := hP17.lendN _ hT22
  refine ⟨(hS21.pick [2] rfl rfl), ?_⟩
  refine gv1 19 23 (.bool b19) rfl (hS21.pick [2] rfl rfl) ?_
  refine gv1 20 2 (.int .u8 0) rfl (hS21.pick [2] rfl rfl) ?_
  refine gv1 21 3 (.bool b19) rfl (hS21.pick [2] rfl rfl) ?_
  refine gd_done (by kernel_rfl) ?_
  refine gx_thenN ?_
  refine hK4 _ _ ?_
  refine gx_ret ?_
  obtain rfl := Option.some.inj hF
  exact gx_fin (.tuple #[.int .u8 0, .bool b19]) (by kernel_rfl) (by kernel_rfl) ⟨_, rfl, rfl, (hS21.pick [2] rfl rfl)⟩
 | false =>
  try dsimp only at hF
  refine gz1 10 14 rfl (hS13.pick [1] rfl rfl) ?_
  refine gz1 11 15 rfl (hS13.pick [1] rfl rfl) ?_
  refine gz1 12 16 rfl (hS13.pick [1] rfl rfl) ?_
  refine gz1 13 17 rfl (hS13.pick [1] rfl rfl) ?_
  refine gz1 14 18 rfl (hS13.pick [1] rfl rfl) ?_
  refine gz1 15 19 rfl (hS13.pick [1] rfl rfl) ?_
  refine gz1 16 20 rfl (hS13.pick [1] rfl rfl) ?_
  refine gz1 17 21 rfl (hS13.pick [1] rfl rfl) ?_
  refine gz1 18 22 rfl (hS13.pick [1] rfl rfl) ?_
  refine gv1 19 23 (.bool false) rfl (hS13.pick [1] rfl rfl) ?_
  refine gv1 20 2 (.int .u8 0) rfl (hS13.pick [1] rfl rfl) ?_
  refine gv1 21 3 (.bool false) rfl (hS13.pick [1] rfl rfl) ?_
  refine gd_done (by kernel_rfl) ?_
  refine gx_thenN ?_
  refine hK4 _ _ ?_
  refine gx_ret ?_
  obtain rfl := Option.some.inj hF
  exact gx_fin (.tuple #[.int .u8 0, .bool false]) (by kernel_rfl) (by kernel_rfl) ⟨_, rfl, rfl, (hS13.pick [1] rfl rfl)⟩
def qElsewhere (_N : Nat) (_p0_0 : List Int) (_p0_1 : List Int) (_p0_2 : Int) (_p0_3 : Int) (_p0_4 : Int) (_p0_5 : Int) (_p0_6 : Int) (_p0_7 : Int) (_p0_8 : Int) (_p0_9 : Bool) (_p0_10 : Bool) (_p0_11 : Bool) : Option (Int × Bool) :=
 some (1, true)
set_option linter.unusedVariables false in
def qElsewhere_R (p0_0 : List Int) (p0_1 : List Int) (p0_2 : Int) (p0_3 : Int) (p0_4 : Int) (p0_5 : Int) (p0_6 : Int) (p0_7 : Int) (p0_8 : Int) (p0_9 : Bool) (p0_10 : Bool) (p0_11 : Bool) (g0 : Nat) (A0_0 : Option Addr) (c0_0 : Nat) (A0_1 : Option Addr) (c0_1 : Nat) (r : Int × Bool) (w0 : World) (v : Value) (w : World) : Prop := v = .tuple #[.int .u8 r.1, .bool r.2] ∧ St (foots [plE g0 A0_0 c0_0 A0_1 c0_1 p0_0 p0_1 p0_2 p0_3 p0_4 p0_5 p0_6 p0_7 p0_8 p0_9 p0_10 p0_11]) w0 w [plE g0 A0_0 c0_0 A0_1 c0_1 p0_0 p0_1 p0_2 p0_3 p0_4 p0_5 p0_6 p0_7 p0_8 p0_9 p0_10 p0_11]
set_option maxRecDepth 100000 in
set_option maxHeartbeats 4000000 in
theorem qElsewhere_ok (N : Nat) (p0_0 : List Int) (p0_1 : List Int) (p0_2 : Int) (p0_3 : Int) (p0_4 : Int) (p0_5 : Int) (p0_6 : Int) (p0_7 : Int) (p0_8 : Int) (p0_9 : Bool) (p0_10 : Bool) (p0_11 : Bool) (g0 : Nat) (A0_0 : Option Addr) (c0_0 : Nat) (A0_1 : Option Addr) (c0_1 : Nat) (r : Int × Bool) (hF : qElsewhere N p0_0 p0_1 p0_2 p0_3 p0_4 p0_5 p0_6 p0_7 p0_8 p0_9 p0_10 p0_11 = some r) (w0 : World) (_hv0_0 : Vw (foots [plE g0 A0_0 c0_0 A0_1 c0_1 p0_0 p0_1 p0_2 p0_3 p0_4 p0_5 p0_6 p0_7 p0_8 p0_9 p0_10 p0_11]) .i32 w0 A0_0 c0_0 p0_0) (_hv0_1 : Vw (foots [plE g0 A0_0 c0_0 A0_1 c0_1 p0_0 p0_1 p0_2 p0_3 p0_4 p0_5 p0_6 p0_7 p0_8 p0_9 p0_10 p0_11]) .u8 w0 A0_1 c0_1 p0_1) (hl : St (foots [plE g0 A0_0 c0_0 A0_1 c0_1 p0_0 p0_1 p0_2 p0_3 p0_4 p0_5 p0_6 p0_7 p0_8 p0_9 p0_10 p0_11]) w0 w0 [plE g0 A0_0 c0_0 A0_1 c0_1 p0_0 p0_1 p0_2 p0_3 p0_4 p0_5 p0_6 p0_7 p0_8 p0_9 p0_10 p0_11]) :
  Calls Try.prog 78 #[.pointer (some ⟨g0, 0, none⟩)] w0 fun e w => ∃ v, e = .returned v ∧ qElsewhere_R p0_0 p0_1 p0_2 p0_3 p0_4 p0_5 p0_6 p0_7 p0_8 p0_9 p0_10 p0_11 g0 A0_0 c0_0 A0_1 c0_1 r w0 v w := by
 have hS0 := hl
 unfold qElsewhere at hF
 refine calls_of Try.func78 rfl ⟨((.pointer (some ⟨g0, 0, none⟩)) :: un 3 ([])).toArray, []⟩ (by kernel_rfl) ?_
 refine gx_seq (fun K1 hK2 => ?_)
 refine gx_region ?_
 refine gx_k (.int .u8 0) w0 (gx_k (.bool false) w0 ?_)
 refine gx_nil ?_
 refine gx_thenN ?_
 refine hK2 _ _ ?_
 refine gx_seq (fun K3 hK4 => ?_)
 refine gx_region ?_
 refine gx_k (.int .u8 1) w0 (gx_k (.bool true) w0 ?_)
 refine gx_nil ?_
 refine gx_thenN ?_
 refine hK4 _ _ ?_
 refine gx_ret ?_
 obtain rfl := Option.some.inj hF
 exact gx_fin (.tuple #[.int .u8 1, .bool true]) (by kernel_rfl) (by kernel_rfl) ⟨_, rfl, rfl, hS0⟩
end Go.Proofs.Ytdbimchiecdkoaa
