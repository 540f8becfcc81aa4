/-
  The rules, walked.
-/
import Derived.Test.YtdbimchiecdkoaaPJ
namespace Go.Proofs.Ytdbimchiecdkoaa
open Go Go.RowKit
set_option linter.unusedVariables false
def qSlashHebrew (N : Nat) (p0_0 : List Int) (p0_1 : List Int) (p0_2 : Int) (p0_3 : Int) (p0_4 : Int) (p0_5 : Int) (p0_6 : Int) (p0_7 : Int) (p0_8 : Int) (p0_9 : Bool) (p0_10 : Bool) (p0_11 : Bool) : Option (Int × Bool) :=
 ((pIs N p0_0 p0_1 p0_2 p0_3 p0_4 p0_5 p0_6 p0_7 p0_8 p0_9 p0_10 p0_11 p0_3 ([24])).bind fun b11 => (match b11 with | true => ((pIs N p0_0 p0_1 p0_2 p0_3 p0_4 p0_5 p0_6 p0_7 p0_8 p0_9 p0_10 p0_11 p0_4 ([28])).bind fun b19 => some (0, b19)) | false => some (0, false)))
set_option linter.unusedVariables false in
def qSlashHebrew_R (p0_0 : List Int) (p0_1 : List Int) (p0_2 : Int) (p0_3 : Int) (p0_4 : Int) (p0_5 : Int) (p0_6 : Int) (p0_7 : Int) (p0_8 : Int) (p0_9 : Bool) (p0_10 : Bool) (p0_11 : Bool) (g0 : Nat) (A0_0 : Option Addr) (c0_0 : Nat) (A0_1 : Option Addr) (c0_1 : Nat) (r : Int × Bool) (w0 : World) (v : Value) (w : World) : Prop := v = .tuple #[.int .u8 r.1, .bool r.2] ∧ St (foots [plE g0 A0_0 c0_0 A0_1 c0_1 p0_0 p0_1 p0_2 p0_3 p0_4 p0_5 p0_6 p0_7 p0_8 p0_9 p0_10 p0_11]) w0 w [plE g0 A0_0 c0_0 A0_1 c0_1 p0_0 p0_1 p0_2 p0_3 p0_4 p0_5 p0_6 p0_7 p0_8 p0_9 p0_10 p0_11]
set_option maxRecDepth 100000 in
set_option maxHeartbeats 4000000 in
theorem qSlashHebrew_ok (N : Nat) (p0_0 : List Int) (p0_1 : List Int) (p0_2 : Int) (p0_3 : Int) (p0_4 : Int) (p0_5 : Int) (p0_6 : Int) (p0_7 : Int) (p0_8 : Int) (p0_9 : Bool) (p0_10 : Bool) (p0_11 : Bool) (g0 : Nat) (A0_0 : Option Addr) (c0_0 : Nat) (A0_1 : Option Addr) (c0_1 : Nat) (r : Int × Bool) (hF : qSlashHebrew N p0_0 p0_1 p0_2 p0_3 p0_4 p0_5 p0_6 p0_7 p0_8 p0_9 p0_10 p0_11 = some r) (w0 : World) (hv0_0 : Vw (foots [plE g0 A0_0 c0_0 A0_1 c0_1 p0_0 p0_1 p0_2 p0_3 p0_4 p0_5 p0_6 p0_7 p0_8 p0_9 p0_10 p0_11]) .i32 w0 A0_0 c0_0 p0_0) (hv0_1 : Vw (foots [plE g0 A0_0 c0_0 A0_1 c0_1 p0_0 p0_1 p0_2 p0_3 p0_4 p0_5 p0_6 p0_7 p0_8 p0_9 p0_10 p0_11]) .u8 w0 A0_1 c0_1 p0_1) (hl : St (foots [plE g0 A0_0 c0_0 A0_1 c0_1 p0_0 p0_1 p0_2 p0_3 p0_4 p0_5 p0_6 p0_7 p0_8 p0_9 p0_10 p0_11]) w0 w0 [plE g0 A0_0 c0_0 A0_1 c0_1 p0_0 p0_1 p0_2 p0_3 p0_4 p0_5 p0_6 p0_7 p0_8 p0_9 p0_10 p0_11]) :
  Calls Try.prog 62 #[.pointer (some ⟨g0, 0, none⟩)] w0 fun e w => ∃ v, e = .returned v ∧ qSlashHebrew_R p0_0 p0_1 p0_2 p0_3 p0_4 p0_5 p0_6 p0_7 p0_8 p0_9 p0_10 p0_11 g0 A0_0 c0_0 A0_1 c0_1 r w0 v w := by
 have hS0 := hl
 unfold qSlashHebrew at hF
 refine calls_of Try.func62 rfl ⟨((.pointer (some ⟨g0, 0, none⟩)) :: un 23 ([])).toArray, []⟩ (by kernel_rfl) ?_
 refine gx_seq (fun K1 hK2 => ?_)
 refine gx_region ?_
 refine gx_k (.int .u8 0) w0 (gx_k (.bool false) w0 ?_)
 refine gx_nil ?_
 refine gx_thenN ?_
 refine hK2 _ _ ?_
 refine gx_seq (fun K3 hK4 => ?_)
 refine gd_start (fun w => St (foots [plE g0 A0_0 c0_0 A0_1 c0_1 p0_0 p0_1 p0_2 p0_3 p0_4 p0_5 p0_6 p0_7 p0_8 p0_9 p0_10 p0_11]) w0 w [plE g0 A0_0 c0_0 A0_1 c0_1 p0_0 p0_1 p0_2 p0_3 p0_4 p0_5 p0_6 p0_7 p0_8 p0_9 p0_10 p0_11]) 22 #[false, false, false, false, false, false, false, false, false, false, false, false, false, false, false, false, false, false, false, false, false, false] (by kernel_rfl) (by kernel_rfl) ?_
 have hS6 := hS0.drew
 generalize w0.drew = w5 at hS6 ⊢
 refine gv1 0 4 (.pointer (some ⟨g0, 0, none⟩)) rfl hS6 ?_
 refine gv1 1 5 (.pointer (some ⟨g0, 0, none⟩)) rfl hS6 ?_
 refine gv1 2 6 (.pointer (some ⟨g0, 0, none⟩)) rfl hS6 ?_
 refine gv1 3 7 (.pointer (some ⟨g0, 0, none⟩)) rfl hS6 ?_
 refine gv1 4 8 (.pointer (some ⟨g0, 0, none⟩)) rfl hS6 ?_
 refine gv1 5 9 (.pointer (some ⟨g0, 3, none⟩)) rfl hS6 ?_
 refine gu1 6 10 (.int .i64 p0_3) rfl hS6 (fun w hSw => run_load1 rfl (by kernel_rfl) (fun _ => by kernel_rfl) (hSw.box 0 rfl 3 rfl)) ?_
 refine gdR 7 { dst := some 11, op := _, type := _, pos := _, after := _, guard := _ } rfl (st_made .u8 5 [24] hS6 (by show 1 ≤ 1000000000; decide) (by kernel_rfl)) ?_
 rintro _ w7 ⟨rfl, hS8⟩
 have hS8 : St _ _ w7 [plE g0 A0_0 c0_0 A0_1 c0_1 p0_0 p0_1 p0_2 p0_3 p0_4 p0_5 p0_6 p0_7 p0_8 p0_9 p0_10 p0_11, rowE .u8 5 (some ⟨w5.heap.size, 0, none⟩) 1 ([24])] := hS8
 refine ⟨(hS8.pick [0] rfl rfl), ?_⟩
 have hP9 : St _ _ w7 ([plE g0 A0_0 c0_0 A0_1 c0_1 p0_0 p0_1 p0_2 p0_3 p0_4 p0_5 p0_6 p0_7 p0_8 p0_9 p0_10 p0_11] ++ [rowE .u8 5 (some ⟨w5.heap.size, 0, none⟩) 1 ([24])]) := hS8
 obtain ⟨b11, hc10, hF⟩ := bind_in hF
 try dsimp only at hF
 refine gdC 8 { dst := some 12, op := _, type := _, pos := _, after := _, guard := _ } (pIs_R p0_0 p0_1 p0_2 p0_3 p0_4 p0_5 p0_6 p0_7 p0_8 p0_9 p0_10 p0_11 p0_3 ([24]) g0 A0_0 c0_0 A0_1 c0_1 (some ⟨w5.heap.size, 0, none⟩) 1 b11 w7) rfl (by kernel_rfl) (pIs_ok N p0_0 p0_1 p0_2 p0_3 p0_4 p0_5 p0_6 p0_7 p0_8 p0_9 p0_10 p0_11 p0_3 ([24]) g0 A0_0 c0_0 A0_1 c0_1 (some ⟨w5.heap.size, 0, none⟩) 1 _ hc10 w7 (hP9.vwA hv0_0) (hP9.vwA hv0_1) (hP9.vwB 0 rfl) hP9.part) ?_
 rintro _ w12 ⟨rfl, hT14⟩
 have hS13 : St _ _ w12 [rowE .u8 5 (some ⟨w5.heap.size, 0, none⟩) 1 ([24]), plE g0 A0_0 c0_0 A0_1 c0_1 p0_0 p0_1 p0_2 p0_3 p0_4 p0_5 p0_6 p0_7 p0_8 p0_9 p0_10 p0_11] := hP9.lendN _ hT14
 refine ⟨(hS13.pick [1] rfl rfl), ?_⟩
 refine gv1 9 13 (.bool b11) rfl (hS13.pick [1] rfl rfl) ?_
 cases b11 with
 | true =>
  try dsimp only at hF
  refine gv1 10 14 (.pointer (some ⟨g0, 0, none⟩)) rfl (hS13.pick [1] rfl rfl) ?_
  refine gv1 11 15 (.pointer (some ⟨g0, 0, none⟩)) rfl (hS13.pick [1] rfl rfl) ?_
  refine gv1 12 16 (.pointer (some ⟨g0, 0, none⟩)) rfl (hS13.pick [1] rfl rfl) ?_
  refine gv1 13 17 (.pointer (some ⟨g0, 0, none⟩)) rfl (hS13.pick [1] rfl rfl) ?_
  refine gv1 14 18 (.pointer (some ⟨g0, 0, none⟩)) rfl (hS13.pick [1] rfl rfl) ?_
  refine gv1 15 19 (.pointer (some ⟨g0, 4, none⟩)) rfl (hS13.pick [1] rfl rfl) ?_
  refine gu1 16 20 (.int .i64 p0_4) rfl (hS13.pick [1] rfl rfl) (fun w hSw => run_load1 rfl (by kernel_rfl) (fun _ => by kernel_rfl) (hSw.box 0 rfl 4 rfl)) ?_
  refine gdR 17 { dst := some 21, op := _, type := _, pos := _, after := _, guard := _ } rfl (st_made .u8 5 [28] hS13 (by show 1 ≤ 1000000000; decide) (by kernel_rfl)) ?_
  rintro _ w15 ⟨rfl, hS16⟩
  have hS16 : St _ _ w15 [rowE .u8 5 (some ⟨w5.heap.size, 0, none⟩) 1 ([24]), plE g0 A0_0 c0_0 A0_1 c0_1 p0_0 p0_1 p0_2 p0_3 p0_4 p0_5 p0_6 p0_7 p0_8 p0_9 p0_10 p0_11, rowE .u8 5 (some ⟨w12.heap.size, 0, none⟩) 1 ([28])] := hS16
  refine ⟨(hS16.pick [1] rfl rfl), ?_⟩
  have hP17 : St _ _ w15 ([plE g0 A0_0 c0_0 A0_1 c0_1 p0_0 p0_1 p0_2 p0_3 p0_4 p0_5 p0_6 p0_7 p0_8 p0_9 p0_10 p0_11] ++ [rowE .u8 5 (some ⟨w5.heap.size, 0, none⟩) 1 ([24]), rowE .u8 5 (some ⟨w12.heap.size, 0, none⟩) 1 ([28])]) := hS16.pick [1, 0, 2] rfl rfl
  obtain ⟨b19, hc18, hF⟩ := bind_in hF
  try dsimp only at hF
  refine gdC 18 { dst := some 22, op := _, type := _, pos := _, after := _, guard := _ } (pIs_R p0_0 p0_1 p0_2 p0_3 p0_4 p0_5 p0_6 p0_7 p0_8 p0_9 p0_10 p0_11 p0_4 ([28]) g0 A0_0 c0_0 A0_1 c0_1 (some ⟨w12.heap.size, 0, none⟩) 1 b19 w15) rfl (by kernel_rfl) (pIs_ok N p0_0 p0_1 p0_2 p0_3 p0_4 p0_5 p0_6 p0_7 p0_8 p0_9 p0_10 p0_11 p0_4 ([28]) g0 A0_0 c0_0 A0_1 c0_1 (some ⟨w12.heap.size, 0, none⟩) 1 _ hc18 w15 (hP17.vwA hv0_0) (hP17.vwA hv0_1) (hP17.vwB 1 rfl) hP17.part) ?_
  rintro _ w20 ⟨rfl, hT22⟩
  have hS21 : St _ _ w20 [rowE .u8 5 (some ⟨w5.heap.size, 0, none⟩) 1 ([24]), rowE .u8 5 (some ⟨w12.heap.size, 0, none⟩) 1 ([28]), plE g0 A0_0 c0_0 A0_1 c0_1 p0_0 p0_1 p0_2 p0_3 p0_4 p0_5 p0_6 p0_7 p0_8 p0_9 p0_10 p0_11] := hP17.lendN _ hT22
  refine ⟨(hS21.pick [2] rfl rfl), ?_⟩
  refine gv1 19 23 (.bool b19) rfl (hS21.pick [2] rfl rfl) ?_
  refine gv1 20 2 (.int .u8 0) rfl (hS21.pick [2] rfl rfl) ?_
  refine gv1 21 3 (.bool b19) rfl (hS21.pick [2] rfl rfl) ?_
  refine gd_done (by kernel_rfl) ?_
  refine gx_thenN ?_
  refine hK4 _ _ ?_
  refine gx_ret ?_
  obtain rfl := Option.some.inj hF
  exact gx_fin (.tuple #[.int .u8 0, .bool b19]) (by kernel_rfl) (by kernel_rfl) ⟨_, rfl, rfl, (hS21.pick [2] rfl rfl)⟩
 | false =>
  try dsimp only at hF
  refine gz1 10 14 rfl (hS13.pick [1] rfl rfl) ?_
  refine gz1 11 15 rfl (hS13.pick [1] rfl rfl) ?_
  refine gz1 12 16 rfl (hS13.pick [1] rfl rfl) ?_
  refine gz1 13 17 rfl (hS13.pick [1] rfl rfl) ?_
  refine gz1 14 18 rfl (hS13.pick [1] rfl rfl) ?_
  refine gz1 15 19 rfl (hS13.pick [1] rfl rfl) ?_
  refine gz1 16 20 rfl (hS13.pick [1] rfl rfl) ?_
  refine gz1 17 21 rfl (hS13.pick [1] rfl rfl) ?_
  refine gz1 18 22 rfl (hS13.pick [1] rfl rfl) ?_
  refine gv1 19 23 (.bool false) rfl (hS13.pick [1] rfl rfl) ?_
  refine gv1 20 2 (.int .u8 0) rfl (hS13.pick [1] rfl rfl) ?_
  refine gv1 21 3 (.bool false) rfl (hS13.pick [1] rfl rfl) ?_
  refine gd_done (by kernel_rfl) ?_
  refine gx_thenN ?_
  refine hK4 _ _ ?_
  refine gx_ret ?_
  obtain rfl := Option.some.inj hF
  exact gx_fin (.tuple #[.int .u8 0, .bool false]) (by kernel_rfl) (by kernel_rfl) ⟨_, rfl, rfl, (hS13.pick [1] rfl rfl)⟩
def qAheadOfEllipsis (N : Nat) (p0_0 : List Int) (p0_1 : List Int) (p0_2 : Int) (p0_3 : Int) (p0_4 : Int) (p0_5 : Int) (p0_6 : Int) (p0_7 : Int) (p0_8 : Int) (p0_9 : Bool) (p0_10 : Bool) (p0_11 : Bool) : Option (Int × Bool) :=
 ((pIs N p0_0 p0_1 p0_2 p0_3 p0_4 p0_5 p0_6 p0_7 p0_8 p0_9 p0_10 p0_11 p0_4 ([17])).bind fun b11 => some (0, b11))
set_option linter.unusedVariables false in
def qAheadOfEllipsis_R (p0_0 : List Int) (p0_1 : List Int) (p0_2 : Int) (p0_3 : Int) (p0_4 : Int) (p0_5 : Int) (p0_6 : Int) (p0_7 : Int) (p0_8 : Int) (p0_9 : Bool) (p0_10 : Bool) (p0_11 : Bool) (g0 : Nat) (A0_0 : Option Addr) (c0_0 : Nat) (A0_1 : Option Addr) (c0_1 : Nat) (r : Int × Bool) (w0 : World) (v : Value) (w : World) : Prop := v = .tuple #[.int .u8 r.1, .bool r.2] ∧ St (foots [plE g0 A0_0 c0_0 A0_1 c0_1 p0_0 p0_1 p0_2 p0_3 p0_4 p0_5 p0_6 p0_7 p0_8 p0_9 p0_10 p0_11]) w0 w [plE g0 A0_0 c0_0 A0_1 c0_1 p0_0 p0_1 p0_2 p0_3 p0_4 p0_5 p0_6 p0_7 p0_8 p0_9 p0_10 p0_11]
set_option maxRecDepth 100000 in
set_option maxHeartbeats 4000000 in
theorem qAheadOfEllipsis_ok (N : Nat) (p0_0 : List Int) (p0_1 : List Int) (p0_2 : Int) (p0_3 : Int) (p0_4 : Int) (p0_5 : Int) (p0_6 : Int) (p0_7 : Int) (p0_8 : Int) (p0_9 : Bool) (p0_10 : Bool) (p0_11 : Bool) (g0 : Nat) (A0_0 : Option Addr) (c0_0 : Nat) (A0_1 : Option Addr) (c0_1 : Nat) (r : Int × Bool) (hF : qAheadOfEllipsis N p0_0 p0_1 p0_2 p0_3 p0_4 p0_5 p0_6 p0_7 p0_8 p0_9 p0_10 p0_11 = some r) (w0 : World) (hv0_0 : Vw (foots [plE g0 A0_0 c0_0 A0_1 c0_1 p0_0 p0_1 p0_2 p0_3 p0_4 p0_5 p0_6 p0_7 p0_8 p0_9 p0_10 p0_11]) .i32 w0 A0_0 c0_0 p0_0) (hv0_1 : Vw (foots [plE g0 A0_0 c0_0 A0_1 c0_1 p0_0 p0_1 p0_2 p0_3 p0_4 p0_5 p0_6 p0_7 p0_8 p0_9 p0_10 p0_11]) .u8 w0 A0_1 c0_1 p0_1) (hl : St (foots [plE g0 A0_0 c0_0 A0_1 c0_1 p0_0 p0_1 p0_2 p0_3 p0_4 p0_5 p0_6 p0_7 p0_8 p0_9 p0_10 p0_11]) w0 w0 [plE g0 A0_0 c0_0 A0_1 c0_1 p0_0 p0_1 p0_2 p0_3 p0_4 p0_5 p0_6 p0_7 p0_8 p0_9 p0_10 p0_11]) :
  Calls Try.prog 63 #[.pointer (some ⟨g0, 0, none⟩)] w0 fun e w => ∃ v, e = .returned v ∧ qAheadOfEllipsis_R p0_0 p0_1 p0_2 p0_3 p0_4 p0_5 p0_6 p0_7 p0_8 p0_9 p0_10 p0_11 g0 A0_0 c0_0 A0_1 c0_1 r w0 v w := by
 have hS0 := hl
 unfold qAheadOfEllipsis at hF
 refine calls_of Try.func63 rfl ⟨((.pointer (some ⟨g0, 0, none⟩)) :: un 12 ([])).toArray, []⟩ (by kernel_rfl) ?_
 refine gx_seq (fun K1 hK2 => ?_)
 refine gx_region ?_
 refine gx_k (.int .u8 0) w0 (gx_k (.bool false) w0 ?_)
 refine gx_nil ?_
 refine gx_thenN ?_
 refine hK2 _ _ ?_
 refine gx_seq (fun K3 hK4 => ?_)
 refine gd_start (fun w => St (foots [plE g0 A0_0 c0_0 A0_1 c0_1 p0_0 p0_1 p0_2 p0_3 p0_4 p0_5 p0_6 p0_7 p0_8 p0_9 p0_10 p0_11]) w0 w [plE g0 A0_0 c0_0 A0_1 c0_1 p0_0 p0_1 p0_2 p0_3 p0_4 p0_5 p0_6 p0_7 p0_8 p0_9 p0_10 p0_11]) 11 #[false, false, false, false, false, false, false, false, false, false, false] (by kernel_rfl) (by kernel_rfl) ?_
 have hS6 := hS0.drew
 generalize w0.drew = w5 at hS6 ⊢
 refine gv1 0 4 (.pointer (some ⟨g0, 0, none⟩)) rfl hS6 ?_
 refine gv1 1 5 (.pointer (some ⟨g0, 0, none⟩)) rfl hS6 ?_
 refine gv1 2 6 (.pointer (some ⟨g0, 0, none⟩)) rfl hS6 ?_
 refine gv1 3 7 (.pointer (some ⟨g0, 0, none⟩)) rfl hS6 ?_
 refine gv1 4 8 (.pointer (some ⟨g0, 0, none⟩)) rfl hS6 ?_
 refine gv1 5 9 (.pointer (some ⟨g0, 4, none⟩)) rfl hS6 ?_
 refine gu1 6 10 (.int .i64 p0_4) rfl hS6 (fun w hSw => run_load1 rfl (by kernel_rfl) (fun _ => by kernel_rfl) (hSw.box 0 rfl 4 rfl)) ?_
 refine gdR 7 { dst := some 11, op := _, type := _, pos := _, after := _, guard := _ } rfl (st_made .u8 5 [17] hS6 (by show 1 ≤ 1000000000; decide) (by kernel_rfl)) ?_
 rintro _ w7 ⟨rfl, hS8⟩
 have hS8 : St _ _ w7 [plE g0 A0_0 c0_0 A0_1 c0_1 p0_0 p0_1 p0_2 p0_3 p0_4 p0_5 p0_6 p0_7 p0_8 p0_9 p0_10 p0_11, rowE .u8 5 (some ⟨w5.heap.size, 0, none⟩) 1 ([17])] := hS8
 refine ⟨(hS8.pick [0] rfl rfl), ?_⟩
 have hP9 : St _ _ w7 ([plE g0 A0_0 c0_0 A0_1 c0_1 p0_0 p0_1 p0_2 p0_3 p0_4 p0_5 p0_6 p0_7 p0_8 p0_9 p0_10 p0_11] ++ [rowE .u8 5 (some ⟨w5.heap.size, 0, none⟩) 1 ([17])]) := hS8
 obtain ⟨b11, hc10, hF⟩ := bind_in hF
 try dsimp only at hF
 refine gdC 8 { dst := some 12, op := _, type := _, pos := _, after := _, guard := _ } (pIs_R p0_0 p0_1 p0_2 p0_3 p0_4 p0_5 p0_6 p0_7 p0_8 p0_9 p0_10 p0_11 p0_4 ([17]) g0 A0_0 c0_0 A0_1 c0_1 (some ⟨w5.heap.size, 0, none⟩) 1 b11 w7) rfl (by kernel_rfl) (pIs_ok N p0_0 p0_1 p0_2 p0_3 p0_4 p0_5 p0_6 p0_7 p0_8 p0_9 p0_10 p0_11 p0_4 ([17]) g0 A0_0 c0_0 A0_1 c0_1 (some ⟨w5.heap.size, 0, none⟩) 1 _ hc10 w7 (hP9.vwA hv0_0) (hP9.vwA hv0_1) (hP9.vwB 0 rfl) hP9.part) ?_
 rintro _ w12 ⟨rfl, hT14⟩
 have hS13 : St _ _ w12 [rowE .u8 5 (some ⟨w5.heap.size, 0, none⟩) 1 ([17]), plE g0 A0_0 c0_0 A0_1 c0_1 p0_0 p0_1 p0_2 p0_3 p0_4 p0_5 p0_6 p0_7 p0_8 p0_9 p0_10 p0_11] := hP9.lendN _ hT14
 refine ⟨(hS13.pick [1] rfl rfl), ?_⟩
 refine gv1 9 2 (.int .u8 0) rfl (hS13.pick [1] rfl rfl) ?_
 refine gv1 10 3 (.bool b11) rfl (hS13.pick [1] rfl rfl) ?_
 refine gd_done (by kernel_rfl) ?_
 refine gx_thenN ?_
 refine hK4 _ _ ?_
 refine gx_ret ?_
 obtain rfl := Option.some.inj hF
 exact gx_fin (.tuple #[.int .u8 0, .bool b11]) (by kernel_rfl) (by kernel_rfl) ⟨_, rfl, rfl, (hS13.pick [1] rfl rfl)⟩
def qLetterDigit (N : Nat) (p0_0 : List Int) (p0_1 : List Int) (p0_2 : Int) (p0_3 : Int) (p0_4 : Int) (p0_5 : Int) (p0_6 : Int) (p0_7 : Int) (p0_8 : Int) (p0_9 : Bool) (p0_10 : Bool) (p0_11 : Bool) : Option (Int × Bool) :=
 ((((pLetter N p0_0 p0_1 p0_2 p0_3 p0_4 p0_5 p0_6 p0_7 p0_8 p0_9 p0_10 p0_11 p0_3).bind fun b18 => (match b18 with | true => ((pDigit N p0_0 p0_1 p0_2 p0_3 p0_4 p0_5 p0_6 p0_7 p0_8 p0_9 p0_10 p0_11 p0_4).bind fun b24 => some (b24)) | false => some (false))) : Option (Bool)).bind fun b10 => (match b10 with | true => some (0, true) | false => ((pDigit N p0_0 p0_1 p0_2 p0_3 p0_4 p0_5 p0_6 p0_7 p0_8 p0_9 p0_10 p0_11 p0_3).bind fun b30 => (match b30 with | true => ((pLetter N p0_0 p0_1 p0_2 p0_3 p0_4 p0_5 p0_6 p0_7 p0_8 p0_9 p0_10 p0_11 p0_4).bind fun b36 => some (0, b36)) | false => some (0, false)))))
set_option linter.unusedVariables false in
def qLetterDigit_R (p0_0 : List Int) (p0_1 : List Int) (p0_2 : Int) (p0_3 : Int) (p0_4 : Int) (p0_5 : Int) (p0_6 : Int) (p0_7 : Int) (p0_8 : Int) (p0_9 : Bool) (p0_10 : Bool) (p0_11 : Bool) (g0 : Nat) (A0_0 : Option Addr) (c0_0 : Nat) (A0_1 : Option Addr) (c0_1 : Nat) (r : Int × Bool) (w0 : World) (v : Value) (w : World) : Prop := v = .tuple #[.int .u8 r.1, .bool r.2] ∧ St (foots [plE g0 A0_0 c0_0 A0_1 c0_1 p0_0 p0_1 p0_2 p0_3 p0_4 p0_5 p0_6 p0_7 p0_8 p0_9 p0_10 p0_11]) w0 w [plE g0 A0_0 c0_0 A0_1 c0_1 p0_0 p0_1 p0_2 p0_3 p0_4 p0_5 p0_6 p0_7 p0_8 p0_9 p0_10 p0_11]
set_option maxRecDepth 100000 in
set_option maxHeartbeats 4000000 in
theorem qLetterDigit_ok (N : Nat) (p0_0 : List Int) (p0_1 : List Int) (p0_2 : Int) (p0_3 : Int) (p0_4 : Int) (p0_5 : Int) (p0_6 : Int) (p0_7 : Int) (p0_8 : Int) (p0_9 : Bool) (p0_10 : Bool) (p0_11 : Bool) (g0 : Nat) (A0_0 : Option Addr) (c0_0 : Nat) (A0_1 : Option Addr) (c0_1 : Nat) (r : Int × Bool) (hF : qLetterDigit N p0_0 p0_1 p0_2 p0_3 p0_4 p0_5 p0_6 p0_7 p0_8 p0_9 p0_10 p0_11 = some r) (w0 : World) (hv0_0 : Vw (foots [plE g0 A0_0 c0_0 A0_1 c0_1 p0_0 p0_1 p0_2 p0_3 p0_4 p0_5 p0_6 p0_7 p0_8 p0_9 p0_10 p0_11]) .i32 w0 A0_0 c0_0 p0_0) (hv0_1 : Vw (foots [plE g0 A0_0 c0_0 A0_1 c0_1 p0_0 p0_1 p0_2 p0_3 p0_4 p0_5 p0_6 p0_7 p0_8 p0_9 p0_10 p0_11]) .u8 w0 A0_1 c0_1 p0_1) (hl : St (foots [plE g0 A0_0 c0_0 A0_1 c0_1 p0_0 p0_1 p0_2 p0_3 p0_4 p0_5 p0_6 p0_7 p0_8 p0_9 p0_10 p0_11]) w0 w0 [plE g0 A0_0 c0_0 A0_1 c0_1 p0_0 p0_1 p0_2 p0_3 p0_4 p0_5 p0_6 p0_7 p0_8 p0_9 p0_10 p0_11]) :
  Calls Try.prog 64 #[.pointer (some ⟨g0, 0, none⟩)] w0 fun e w => ∃ v, e = .returned v ∧ qLetterDigit_R p0_0 p0_1 p0_2 p0_3 p0_4 p0_5 p0_6 p0_7 p0_8 p0_9 p0_10 p0_11 g0 A0_0 c0_0 A0_1 c0_1 r w0 v w := by
 have hS0 := hl
 unfold qLetterDigit at hF
 refine calls_of Try.func64 rfl ⟨((.pointer (some ⟨g0, 0, none⟩)) :: un 41 ([])).toArray, []⟩ (by kernel_rfl) ?_
 refine gx_seq (fun K1 hK2 => ?_)
 refine gx_region ?_
 refine gx_k (.int .u8 0) w0 (gx_k (.bool false) w0 ?_)
 refine gx_nil ?_
 refine gx_thenN ?_
 refine hK2 _ _ ?_
 refine gx_seq (fun K3 hK4 => ?_)
 refine gd_start (fun w => St (foots [plE g0 A0_0 c0_0 A0_1 c0_1 p0_0 p0_1 p0_2 p0_3 p0_4 p0_5 p0_6 p0_7 p0_8 p0_9 p0_10 p0_11]) w0 w [plE g0 A0_0 c0_0 A0_1 c0_1 p0_0 p0_1 p0_2 p0_3 p0_4 p0_5 p0_6 p0_7 p0_8 p0_9 p0_10 p0_11]) 40 #[false, false, false, false, false, false, false, false, false, false, false, false, false, false, false, false, false, false, false, false, false, false, false, false, false, false, false, false, false, false, false, false, false, false, false, false, false, false, false, false] (by kernel_rfl) (by kernel_rfl) ?_
 have hS6 := hS0.drew
 generalize w0.drew = w5 at hS6 ⊢
 refine gv1 0 4 (.pointer (some ⟨g0, 0, none⟩)) rfl hS6 ?_
 refine gv1 1 5 (.pointer (some ⟨g0, 0, none⟩)) rfl hS6 ?_
 refine gv1 2 6 (.pointer (some ⟨g0, 0, none⟩)) rfl hS6 ?_
 refine gv1 3 7 (.pointer (some ⟨g0, 0, none⟩)) rfl hS6 ?_
 refine gv1 4 8 (.pointer (some ⟨g0, 0, none⟩)) rfl hS6 ?_
 refine gv1 5 9 (.pointer (some ⟨g0, 3, none⟩)) rfl hS6 ?_
 refine gu1 6 10 (.int .i64 p0_3) rfl hS6 (fun w hSw => run_load1 rfl (by kernel_rfl) (fun _ => by kernel_rfl) (hSw.box 0 rfl 3 rfl)) ?_
 obtain ⟨c11, hE12, hO13⟩ := bind_in hF
 refine gd_mid (fun a w => ∃ (b10 : Bool), selfA (fun u9 => ⟨((.pointer (some ⟨g0, 0, none⟩)) :: undef :: (.int .u8 0) :: (.bool false) :: (.pointer (some ⟨g0, 0, none⟩)) :: (.pointer (some ⟨g0, 0, none⟩)) :: (.pointer (some ⟨g0, 0, none⟩)) :: (.pointer (some ⟨g0, 0, none⟩)) :: (.pointer (some ⟨g0, 0, none⟩)) :: (.pointer (some ⟨g0, 3, none⟩)) :: (.int .i64 p0_3) :: dd u9 11 10 ((.bool b10) :: un 20 ([]))).toArray, []⟩) a ∧ b10 = c11 ∧ St (foots [plE g0 A0_0 c0_0 A0_1 c0_1 p0_0 p0_1 p0_2 p0_3 p0_4 p0_5 p0_6 p0_7 p0_8 p0_9 p0_10 p0_11]) w0 w [plE g0 A0_0 c0_0 A0_1 c0_1 p0_0 p0_1 p0_2 p0_3 p0_4 p0_5 p0_6 p0_7 p0_8 p0_9 p0_10 p0_11]) 22 #[true, true, true, true, true, true, true, true, true, true, true, true, true, true, true, true, true, true, false, false, false, false, false, false, false, false, false, false, false, false, false, false, false, false, false, false, false, false, false, false] ?_ ?_
 ·rintro _ w7 ⟨b10, hq14, rfl, hS8⟩
  obtain ⟨u9, rfl⟩ := selfA_u hq14
  try dsimp only at hO13
  refine gv1 18 22 (.bool b10) rfl hS8 ?_
  cases b10 with
  | true =>
   try dsimp only at hO13
   refine gz1 19 23 rfl hS8 ?_
   refine gz1 20 24 rfl hS8 ?_
   refine gz1 21 25 rfl hS8 ?_
   refine gz1 22 26 rfl hS8 ?_
   refine gz1 23 27 rfl hS8 ?_
   refine gz1 24 28 rfl hS8 ?_
   refine gz1 25 29 rfl hS8 ?_
   refine gz1 26 30 rfl hS8 ?_
   refine gz1 27 31 rfl hS8 ?_
   refine gz1 28 32 rfl hS8 ?_
   refine gz1 29 33 rfl hS8 ?_
   refine gz1 30 34 rfl hS8 ?_
   refine gz1 31 35 rfl hS8 ?_
   refine gz1 32 36 rfl hS8 ?_
   refine gz1 33 37 rfl hS8 ?_
   refine gz1 34 38 rfl hS8 ?_
   refine gz1 35 39 rfl hS8 ?_
   refine gz1 36 40 rfl hS8 ?_
   refine gv1 37 41 (.bool true) rfl hS8 ?_
   refine gv1 38 2 (.int .u8 0) rfl hS8 ?_
   refine gv1 39 3 (.bool true) rfl hS8 ?_
   refine gd_done (by kernel_rfl) ?_
   refine gx_thenN ?_
   refine hK4 _ _ ?_
   refine gx_ret ?_
   obtain rfl := Option.some.inj hO13
   exact gx_fin (.tuple #[.int .u8 0, .bool true]) (by kernel_rfl) (by kernel_rfl) ⟨_, rfl, rfl, hS8⟩
  | false =>
   try dsimp only at hO13
   refine gv1 19 23 (.pointer (some ⟨g0, 0, none⟩)) rfl hS8 ?_
   refine gv1 20 24 (.pointer (some ⟨g0, 0, none⟩)) rfl hS8 ?_
   refine gv1 21 25 (.pointer (some ⟨g0, 0, none⟩)) rfl hS8 ?_
   refine gv1 22 26 (.pointer (some ⟨g0, 0, none⟩)) rfl hS8 ?_
   refine gv1 23 27 (.pointer (some ⟨g0, 0, none⟩)) rfl hS8 ?_
   refine gv1 24 28 (.pointer (some ⟨g0, 3, none⟩)) rfl hS8 ?_
   refine gu1 25 29 (.int .i64 p0_3) rfl hS8 (fun w hSw => run_load1 rfl (by kernel_rfl) (fun _ => by kernel_rfl) (hSw.box 0 rfl 3 rfl)) ?_
   have hP28 : St _ _ w7 ([plE g0 A0_0 c0_0 A0_1 c0_1 p0_0 p0_1 p0_2 p0_3 p0_4 p0_5 p0_6 p0_7 p0_8 p0_9 p0_10 p0_11] ++ []) := hS8
   obtain ⟨b30, hc29, hO13⟩ := bind_in hO13
   try dsimp only at hO13
   refine gdC 26 { dst := some 30, op := _, type := _, pos := _, after := _, guard := _ } (pDigit_R p0_0 p0_1 p0_2 p0_3 p0_4 p0_5 p0_6 p0_7 p0_8 p0_9 p0_10 p0_11 p0_3 g0 A0_0 c0_0 A0_1 c0_1 b30 w7) rfl (by kernel_rfl) (pDigit_ok N p0_0 p0_1 p0_2 p0_3 p0_4 p0_5 p0_6 p0_7 p0_8 p0_9 p0_10 p0_11 p0_3 g0 A0_0 c0_0 A0_1 c0_1 _ hc29 w7 (hP28.vwA hv0_0) (hP28.vwA hv0_1) hP28.part) ?_
   rintro _ w31 ⟨rfl, hT33⟩
   have hS32 : St _ _ w31 [plE g0 A0_0 c0_0 A0_1 c0_1 p0_0 p0_1 p0_2 p0_3 p0_4 p0_5 p0_6 p0_7 p0_8 p0_9 p0_10 p0_11] := hP28.lendN _ hT33
   refine ⟨hS32, ?_⟩
   refine gv1 27 31 (.bool b30) rfl hS32 ?_
   cases b30 with
   | true =>
    try dsimp only at hO13
    refine gv1 28 32 (.pointer (some ⟨g0, 0, none⟩)) rfl hS32 ?_
    refine gv1 29 33 (.pointer (some ⟨g0, 0, none⟩)) rfl hS32 ?_
    refine gv1 30 34 (.pointer (some ⟨g0, 0, none⟩)) rfl hS32 ?_
    refine gv1 31 35 (.pointer (some ⟨g0, 0, none⟩)) rfl hS32 ?_
    refine gv1 32 36 (.pointer (some ⟨g0, 0, none⟩)) rfl hS32 ?_
    refine gv1 33 37 (.pointer (some ⟨g0, 4, none⟩)) rfl hS32 ?_
    refine gu1 34 38 (.int .i64 p0_4) rfl hS32 (fun w hSw => run_load1 rfl (by kernel_rfl) (fun _ => by kernel_rfl) (hSw.box 0 rfl 4 rfl)) ?_
    have hP34 : St _ _ w31 ([plE g0 A0_0 c0_0 A0_1 c0_1 p0_0 p0_1 p0_2 p0_3 p0_4 p0_5 p0_6 p0_7 p0_8 p0_9 p0_10 p0_11] ++ []) := hS32
    obtain ⟨b36, hc35, hO13⟩ := bind_in hO13
    try dsimp only at hO13
    refine gdC 35 { dst := some 39, op := _, type := _, pos := _, after := _, guard := _ } (pLetter_R p0_0 p0_1 p0_2 p0_3 p0_4 p0_5 p0_6 p0_7 p0_8 p0_9 p0_10 p0_11 p0_4 g0 A0_0 c0_0 A0_1 c0_1 b36 w31) rfl (by kernel_rfl) (pLetter_ok N p0_0 p0_1 p0_2 p0_3 p0_4 p0_5 p0_6 p0_7 p0_8 p0_9 p0_10 p0_11 p0_4 g0 A0_0 c0_0 A0_1 c0_1 _ hc35 w31 (hP34.vwA hv0_0) (hP34.vwA hv0_1) hP34.part) ?_
    rintro _ w37 ⟨rfl, hT39⟩
    have hS38 : St _ _ w37 [plE g0 A0_0 c0_0 A0_1 c0_1 p0_0 p0_1 p0_2 p0_3 p0_4 p0_5 p0_6 p0_7 p0_8 p0_9 p0_10 p0_11] := hP34.lendN _ hT39
    refine ⟨hS38, ?_⟩
    refine gv1 36 40 (.bool b36) rfl hS38 ?_
    refine gv1 37 41 (.bool b36) rfl hS38 ?_
    refine gv1 38 2 (.int .u8 0) rfl hS38 ?_
    refine gv1 39 3 (.bool b36) rfl hS38 ?_
    refine gd_done (by kernel_rfl) ?_
    refine gx_thenN ?_
    refine hK4 _ _ ?_
    refine gx_ret ?_
    obtain rfl := Option.some.inj hO13
    exact gx_fin (.tuple #[.int .u8 0, .bool b36]) (by kernel_rfl) (by kernel_rfl) ⟨_, rfl, rfl, hS38⟩
   | false =>
    try dsimp only at hO13
    refine gz1 28 32 rfl hS32 ?_
    refine gz1 29 33 rfl hS32 ?_
    refine gz1 30 34 rfl hS32 ?_
    refine gz1 31 35 rfl hS32 ?_
    refine gz1 32 36 rfl hS32 ?_
    refine gz1 33 37 rfl hS32 ?_
    refine gz1 34 38 rfl hS32 ?_
    refine gz1 35 39 rfl hS32 ?_
    refine gv1 36 40 (.bool false) rfl hS32 ?_
    refine gv1 37 41 (.bool false) rfl hS32 ?_
    refine gv1 38 2 (.int .u8 0) rfl hS32 ?_
    refine gv1 39 3 (.bool false) rfl hS32 ?_
    refine gd_done (by kernel_rfl) ?_
    refine gx_thenN ?_
    refine hK4 _ _ ?_
    refine gx_ret ?_
    obtain rfl := Option.some.inj hO13
    exact gx_fin (.tuple #[.int .u8 0, .bool false]) (by kernel_rfl) (by kernel_rfl) ⟨_, rfl, rfl, hS32⟩
 ·intro hK15
  have hP16 : St _ _ w5 ([plE g0 A0_0 c0_0 A0_1 c0_1 p0_0 p0_1 p0_2 p0_3 p0_4 p0_5 p0_6 p0_7 p0_8 p0_9 p0_10 p0_11] ++ []) := hS6
  obtain ⟨b18, hc17, hE12⟩ := bind_in hE12
  try dsimp only at hE12
  refine gdC 7 { dst := some 11, op := _, type := _, pos := _, after := _, guard := _ } (pLetter_R p0_0 p0_1 p0_2 p0_3 p0_4 p0_5 p0_6 p0_7 p0_8 p0_9 p0_10 p0_11 p0_3 g0 A0_0 c0_0 A0_1 c0_1 b18 w5) rfl (by kernel_rfl) (pLetter_ok N p0_0 p0_1 p0_2 p0_3 p0_4 p0_5 p0_6 p0_7 p0_8 p0_9 p0_10 p0_11 p0_3 g0 A0_0 c0_0 A0_1 c0_1 _ hc17 w5 (hP16.vwA hv0_0) (hP16.vwA hv0_1) hP16.part) ?_
  rintro _ w19 ⟨rfl, hT21⟩
  have hS20 : St _ _ w19 [plE g0 A0_0 c0_0 A0_1 c0_1 p0_0 p0_1 p0_2 p0_3 p0_4 p0_5 p0_6 p0_7 p0_8 p0_9 p0_10 p0_11] := hP16.lendN _ hT21
  refine ⟨hS20, ?_⟩
  refine gv1 8 12 (.bool b18) rfl hS20 ?_
  cases b18 with
  | true =>
   try dsimp only at hE12
   refine gv1 9 13 (.pointer (some ⟨g0, 0, none⟩)) rfl hS20 ?_
   refine gv1 10 14 (.pointer (some ⟨g0, 0, none⟩)) rfl hS20 ?_
   refine gv1 11 15 (.pointer (some ⟨g0, 0, none⟩)) rfl hS20 ?_
   refine gv1 12 16 (.pointer (some ⟨g0, 0, none⟩)) rfl hS20 ?_
   refine gv1 13 17 (.pointer (some ⟨g0, 0, none⟩)) rfl hS20 ?_
   refine gv1 14 18 (.pointer (some ⟨g0, 4, none⟩)) rfl hS20 ?_
   refine gu1 15 19 (.int .i64 p0_4) rfl hS20 (fun w hSw => run_load1 rfl (by kernel_rfl) (fun _ => by kernel_rfl) (hSw.box 0 rfl 4 rfl)) ?_
   have hP22 : St _ _ w19 ([plE g0 A0_0 c0_0 A0_1 c0_1 p0_0 p0_1 p0_2 p0_3 p0_4 p0_5 p0_6 p0_7 p0_8 p0_9 p0_10 p0_11] ++ []) := hS20
   obtain ⟨b24, hc23, hE12⟩ := bind_in hE12
   try dsimp only at hE12
   refine gdC 16 { dst := some 20, op := _, type := _, pos := _, after := _, guard := _ } (pDigit_R p0_0 p0_1 p0_2 p0_3 p0_4 p0_5 p0_6 p0_7 p0_8 p0_9 p0_10 p0_11 p0_4 g0 A0_0 c0_0 A0_1 c0_1 b24 w19) rfl (by kernel_rfl) (pDigit_ok N p0_0 p0_1 p0_2 p0_3 p0_4 p0_5 p0_6 p0_7 p0_8 p0_9 p0_10 p0_11 p0_4 g0 A0_0 c0_0 A0_1 c0_1 _ hc23 w19 (hP22.vwA hv0_0) (hP22.vwA hv0_1) hP22.part) ?_
   rintro _ w25 ⟨rfl, hT27⟩
   have hS26 : St _ _ w25 [plE g0 A0_0 c0_0 A0_1 c0_1 p0_0 p0_1 p0_2 p0_3 p0_4 p0_5 p0_6 p0_7 p0_8 p0_9 p0_10 p0_11] := hP22.lendN _ hT27
   refine ⟨hS26, ?_⟩
   refine gv1 17 21 (.bool b24) rfl hS26 ?_
   exact gd_to hK15 (by kernel_rfl) ⟨b24, selfA_i (by kernel_rfl), (Option.some.inj hE12), hS26⟩
  | false =>
   try dsimp only at hE12
   refine gz1 9 13 rfl hS20 ?_
   refine gz1 10 14 rfl hS20 ?_
   refine gz1 11 15 rfl hS20 ?_
   refine gz1 12 16 rfl hS20 ?_
   refine gz1 13 17 rfl hS20 ?_
   refine gz1 14 18 rfl hS20 ?_
   refine gz1 15 19 rfl hS20 ?_
   refine gz1 16 20 rfl hS20 ?_
   refine gv1 17 21 (.bool false) rfl hS20 ?_
   exact gd_to hK15 (by kernel_rfl) ⟨false, selfA_i (by kernel_rfl), (Option.some.inj hE12), hS20⟩
def qSignIdeograph (N : Nat) (p0_0 : List Int) (p0_1 : List Int) (p0_2 : Int) (p0_3 : Int) (p0_4 : Int) (p0_5 : Int) (p0_6 : Int) (p0_7 : Int) (p0_8 : Int) (p0_9 : Bool) (p0_10 : Bool) (p0_11 : Bool) : Option (Int × Bool) :=
 ((((pIs N p0_0 p0_1 p0_2 p0_3 p0_4 p0_5 p0_6 p0_7 p0_8 p0_9 p0_10 p0_11 p0_3 ([26])).bind fun b20 => (match b20 with | true => ((pPict N p0_0 p0_1 p0_2 p0_3 p0_4 p0_5 p0_6 p0_7 p0_8 p0_9 p0_10 p0_11 p0_4).bind fun b26 => some (b26)) | false => some (false))) : Option (Bool)).bind fun b12 => (match b12 with | true => some (0, true) | false => ((pPict N p0_0 p0_1 p0_2 p0_3 p0_4 p0_5 p0_6 p0_7 p0_8 p0_9 p0_10 p0_11 p0_3).bind fun b32 => (match b32 with | true => ((pIs N p0_0 p0_1 p0_2 p0_3 p0_4 p0_5 p0_6 p0_7 p0_8 p0_9 p0_10 p0_11 p0_4 ([25])).bind fun b40 => some (0, b40)) | false => some (0, false)))))
set_option linter.unusedVariables false in
def qSignIdeograph_R (p0_0 : List Int) (p0_1 : List Int) (p0_2 : Int) (p0_3 : Int) (p0_4 : Int) (p0_5 : Int) (p0_6 : Int) (p0_7 : Int) (p0_8 : Int) (p0_9 : Bool) (p0_10 : Bool) (p0_11 : Bool) (g0 : Nat) (A0_0 : Option Addr) (c0_0 : Nat) (A0_1 : Option Addr) (c0_1 : Nat) (r : Int × Bool) (w0 : World) (v : Value) (w : World) : Prop := v = .tuple #[.int .u8 r.1, .bool r.2] ∧ St (foots [plE g0 A0_0 c0_0 A0_1 c0_1 p0_0 p0_1 p0_2 p0_3 p0_4 p0_5 p0_6 p0_7 p0_8 p0_9 p0_10 p0_11]) w0 w [plE g0 A0_0 c0_0 A0_1 c0_1 p0_0 p0_1 p0_2 p0_3 p0_4 p0_5 p0_6 p0_7 p0_8 p0_9 p0_10 p0_11]
set_option maxRecDepth 100000 in
set_option maxHeartbeats 4000000 in
theorem qSignIdeograph_ok (N : Nat) (p0_0 : List Int) (p0_1 : List Int) (p0_2 : Int) (p0_3 : Int) (p0_4 : Int) (p0_5 : Int) (p0_6 : Int) (p0_7 : Int) (p0_8 : Int) (p0_9 : Bool) (p0_10 : Bool) (p0_11 : Bool) (g0 : Nat) (A0_0 : Option Addr) (c0_0 : Nat) (A0_1 : Option Addr) (c0_1 : Nat) (r : Int × Bool) (hF : qSignIdeograph N p0_0 p0_1 p0_2 p0_3 p0_4 p0_5 p0_6 p0_7 p0_8 p0_9 p0_10 p0_11 = some r) (w0 : World) (hv0_0 : Vw (foots [plE g0 A0_0 c0_0 A0_1 c0_1 p0_0 p0_1 p0_2 p0_3 p0_4 p0_5 p0_6 p0_7 p0_8 p0_9 p0_10 p0_11]) .i32 w0 A0_0 c0_0 p0_0) (hv0_1 : Vw (foots [plE g0 A0_0 c0_0 A0_1 c0_1 p0_0 p0_1 p0_2 p0_3 p0_4 p0_5 p0_6 p0_7 p0_8 p0_9 p0_10 p0_11]) .u8 w0 A0_1 c0_1 p0_1) (hl : St (foots [plE g0 A0_0 c0_0 A0_1 c0_1 p0_0 p0_1 p0_2 p0_3 p0_4 p0_5 p0_6 p0_7 p0_8 p0_9 p0_10 p0_11]) w0 w0 [plE g0 A0_0 c0_0 A0_1 c0_1 p0_0 p0_1 p0_2 p0_3 p0_4 p0_5 p0_6 p0_7 p0_8 p0_9 p0_10 p0_11]) :
  Calls Try.prog 65 #[.pointer (some ⟨g0, 0, none⟩)] w0 fun e w => ∃ v, e = .returned v ∧ qSignIdeograph_R p0_0 p0_1 p0_2 p0_3 p0_4 p0_5 p0_6 p0_7 p0_8 p0_9 p0_10 p0_11 g0 A0_0 c0_0 A0_1 c0_1 r w0 v w := by
 have hS0 := hl
 unfold qSignIdeograph at hF
 refine calls_of Try.func65 rfl ⟨((.pointer (some ⟨g0, 0, none⟩)) :: un 43 ([])).toArray, []⟩ (by kernel_rfl) ?_
 refine gx_seq (fun K1 hK2 => ?_)
 refine gx_region ?_
 refine gx_k (.int .u8 0) w0 (gx_k (.bool false) w0 ?_)
 refine gx_nil ?_
 refine gx_thenN ?_
 refine hK2 _ _ ?_
 refine gx_seq (fun K3 hK4 => ?_)
 refine gd_start (fun w => St (foots [plE g0 A0_0 c0_0 A0_1 c0_1 p0_0 p0_1 p0_2 p0_3 p0_4 p0_5 p0_6 p0_7 p0_8 p0_9 p0_10 p0_11]) w0 w [plE g0 A0_0 c0_0 A0_1 c0_1 p0_0 p0_1 p0_2 p0_3 p0_4 p0_5 p0_6 p0_7 p0_8 p0_9 p0_10 p0_11]) 42 #[false, false, false, false, false, false, false, false, false, false, false, false, false, false, false, false, false, false, false, false, false, false, false, false, false, false, false, false, false, false, false, false, false, false, false, false, false, false, false, false, false, false] (by kernel_rfl) (by kernel_rfl) ?_
 have hS6 := hS0.drew
 generalize w0.drew = w5 at hS6 ⊢
 refine gv1 0 4 (.pointer (some ⟨g0, 0, none⟩)) rfl hS6 ?_
 refine gv1 1 5 (.pointer (some ⟨g0, 0, none⟩)) rfl hS6 ?_
 refine gv1 2 6 (.pointer (some ⟨g0, 0, none⟩)) rfl hS6 ?_
 refine gv1 3 7 (.pointer (some ⟨g0, 0, none⟩)) rfl hS6 ?_
 refine gv1 4 8 (.pointer (some ⟨g0, 0, none⟩)) rfl hS6 ?_
 refine gv1 5 9 (.pointer (some ⟨g0, 3, none⟩)) rfl hS6 ?_
 refine gu1 6 10 (.int .i64 p0_3) rfl hS6 (fun w hSw => run_load1 rfl (by kernel_rfl) (fun _ => by kernel_rfl) (hSw.box 0 rfl 3 rfl)) ?_
 refine gdR 7 { dst := some 11, op := _, type := _, pos := _, after := _, guard := _ } rfl (st_made .u8 5 [26] hS6 (by show 1 ≤ 1000000000; decide) (by kernel_rfl)) ?_
 rintro _ w7 ⟨rfl, hS8⟩
 have hS8 : St _ _ w7 [plE g0 A0_0 c0_0 A0_1 c0_1 p0_0 p0_1 p0_2 p0_3 p0_4 p0_5 p0_6 p0_7 p0_8 p0_9 p0_10 p0_11, rowE .u8 5 (some ⟨w5.heap.size, 0, none⟩) 1 ([26])] := hS8
 refine ⟨(hS8.pick [0] rfl rfl), ?_⟩
 obtain ⟨c13, hE14, hO15⟩ := bind_in hF
 refine gd_mid (fun a w => ∃ (b12 : Bool), selfA (fun u11 => ⟨((.pointer (some ⟨g0, 0, none⟩)) :: undef :: (.int .u8 0) :: (.bool false) :: (.pointer (some ⟨g0, 0, none⟩)) :: (.pointer (some ⟨g0, 0, none⟩)) :: (.pointer (some ⟨g0, 0, none⟩)) :: (.pointer (some ⟨g0, 0, none⟩)) :: (.pointer (some ⟨g0, 0, none⟩)) :: (.pointer (some ⟨g0, 3, none⟩)) :: (.int .i64 p0_3) :: dd u11 11 11 ((.bool b12) :: un 21 ([]))).toArray, []⟩) a ∧ b12 = c13 ∧ St (foots [plE g0 A0_0 c0_0 A0_1 c0_1 p0_0 p0_1 p0_2 p0_3 p0_4 p0_5 p0_6 p0_7 p0_8 p0_9 p0_10 p0_11]) w0 w [plE g0 A0_0 c0_0 A0_1 c0_1 p0_0 p0_1 p0_2 p0_3 p0_4 p0_5 p0_6 p0_7 p0_8 p0_9 p0_10 p0_11]) 23 #[true, true, true, true, true, true, true, true, true, true, true, true, true, true, true, true, true, true, true, false, false, false, false, false, false, false, false, false, false, false, false, false, false, false, false, false, false, false, false, false, false, false] ?_ ?_
 ·rintro _ w9 ⟨b12, hq16, rfl, hS10⟩
  obtain ⟨u11, rfl⟩ := selfA_u hq16
  try dsimp only at hO15
  refine gv1 19 23 (.bool b12) rfl hS10 ?_
  cases b12 with
  | true =>
   try dsimp only at hO15
   refine gz1 20 24 rfl hS10 ?_
   refine gz1 21 25 rfl hS10 ?_
   refine gz1 22 26 rfl hS10 ?_
   refine gz1 23 27 rfl hS10 ?_
   refine gz1 24 28 rfl hS10 ?_
   refine gz1 25 29 rfl hS10 ?_
   refine gz1 26 30 rfl hS10 ?_
   refine gz1 27 31 rfl hS10 ?_
   refine gz1 28 32 rfl hS10 ?_
   refine gz1 29 33 rfl hS10 ?_
   refine gz1 30 34 rfl hS10 ?_
   refine gz1 31 35 rfl hS10 ?_
   refine gz1 32 36 rfl hS10 ?_
   refine gz1 33 37 rfl hS10 ?_
   refine gz1 34 38 rfl hS10 ?_
   refine gz1 35 39 rfl hS10 ?_
   refine gz1 36 40 rfl hS10 ?_
   refine gz1 37 41 rfl hS10 ?_
   refine gz1 38 42 rfl hS10 ?_
   refine gv1 39 43 (.bool true) rfl hS10 ?_
   refine gv1 40 2 (.int .u8 0) rfl hS10 ?_
   refine gv1 41 3 (.bool true) rfl hS10 ?_
   refine gd_done (by kernel_rfl) ?_
   refine gx_thenN ?_
   refine hK4 _ _ ?_
   refine gx_ret ?_
   obtain rfl := Option.some.inj hO15
   exact gx_fin (.tuple #[.int .u8 0, .bool true]) (by kernel_rfl) (by kernel_rfl) ⟨_, rfl, rfl, hS10⟩
  | false =>
   try dsimp only at hO15
   refine gv1 20 24 (.pointer (some ⟨g0, 0, none⟩)) rfl hS10 ?_
   refine gv1 21 25 (.pointer (some ⟨g0, 0, none⟩)) rfl hS10 ?_
   refine gv1 22 26 (.pointer (some ⟨g0, 0, none⟩)) rfl hS10 ?_
   refine gv1 23 27 (.pointer (some ⟨g0, 0, none⟩)) rfl hS10 ?_
   refine gv1 24 28 (.pointer (some ⟨g0, 0, none⟩)) rfl hS10 ?_
   refine gv1 25 29 (.pointer (some ⟨g0, 3, none⟩)) rfl hS10 ?_
   refine gu1 26 30 (.int .i64 p0_3) rfl hS10 (fun w hSw => run_load1 rfl (by kernel_rfl) (fun _ => by kernel_rfl) (hSw.box 0 rfl 3 rfl)) ?_
   have hP30 : St _ _ w9 ([plE g0 A0_0 c0_0 A0_1 c0_1 p0_0 p0_1 p0_2 p0_3 p0_4 p0_5 p0_6 p0_7 p0_8 p0_9 p0_10 p0_11] ++ []) := hS10
   obtain ⟨b32, hc31, hO15⟩ := bind_in hO15
   try dsimp only at hO15
   refine gdC 27 { dst := some 31, op := _, type := _, pos := _, after := _, guard := _ } (pPict_R p0_0 p0_1 p0_2 p0_3 p0_4 p0_5 p0_6 p0_7 p0_8 p0_9 p0_10 p0_11 p0_3 g0 A0_0 c0_0 A0_1 c0_1 b32 w9) rfl (by kernel_rfl) (pPict_ok N p0_0 p0_1 p0_2 p0_3 p0_4 p0_5 p0_6 p0_7 p0_8 p0_9 p0_10 p0_11 p0_3 g0 A0_0 c0_0 A0_1 c0_1 _ hc31 w9 (hP30.vwA hv0_0) (hP30.vwA hv0_1) hP30.part) ?_
   rintro _ w33 ⟨rfl, hT35⟩
   have hS34 : St _ _ w33 [plE g0 A0_0 c0_0 A0_1 c0_1 p0_0 p0_1 p0_2 p0_3 p0_4 p0_5 p0_6 p0_7 p0_8 p0_9 p0_10 p0_11] := hP30.lendN _ hT35
   refine ⟨hS34, ?_⟩
   refine gv1 28 32 (.bool b32) rfl hS34 ?_
   cases b32 with
   | true =>
    try dsimp only at hO15
    refine gv1 29 33 (.pointer (some ⟨g0, 0, none⟩)) rfl hS34 ?_
    refine gv1 30 34 (.pointer (some ⟨g0, 0, none⟩)) rfl hS34 ?_
    refine gv1 31 35 (.pointer (some ⟨g0, 0, none⟩)) rfl hS34 ?_
    refine gv1 32 36 (.pointer (some ⟨g0, 0, none⟩)) rfl hS34 ?_
    refine gv1 33 37 (.pointer (some ⟨g0, 0, none⟩)) rfl hS34 ?_
    refine gv1 34 38 (.pointer (some ⟨g0, 4, none⟩)) rfl hS34 ?_
    refine gu1 35 39 (.int .i64 p0_4) rfl hS34 (fun w hSw => run_load1 rfl (by kernel_rfl) (fun _ => by kernel_rfl) (hSw.box 0 rfl 4 rfl)) ?_
    refine gdR 36 { dst := some 40, op := _, type := _, pos := _, after := _, guard := _ } rfl (st_made .u8 5 [25] hS34 (by show 1 ≤ 1000000000; decide) (by kernel_rfl)) ?_
    rintro _ w36 ⟨rfl, hS37⟩
    have hS37 : St _ _ w36 [plE g0 A0_0 c0_0 A0_1 c0_1 p0_0 p0_1 p0_2 p0_3 p0_4 p0_5 p0_6 p0_7 p0_8 p0_9 p0_10 p0_11, rowE .u8 5 (some ⟨w33.heap.size, 0, none⟩) 1 ([25])] := hS37
    refine ⟨(hS37.pick [0] rfl rfl), ?_⟩
    have hP38 : St _ _ w36 ([plE g0 A0_0 c0_0 A0_1 c0_1 p0_0 p0_1 p0_2 p0_3 p0_4 p0_5 p0_6 p0_7 p0_8 p0_9 p0_10 p0_11] ++ [rowE .u8 5 (some ⟨w33.heap.size, 0, none⟩) 1 ([25])]) := hS37
    obtain ⟨b40, hc39, hO15⟩ := bind_in hO15
    try dsimp only at hO15
    refine gdC 37 { dst := some 41, op := _, type := _, pos := _, after := _, guard := _ } (pIs_R p0_0 p0_1 p0_2 p0_3 p0_4 p0_5 p0_6 p0_7 p0_8 p0_9 p0_10 p0_11 p0_4 ([25]) g0 A0_0 c0_0 A0_1 c0_1 (some ⟨w33.heap.size, 0, none⟩) 1 b40 w36) rfl (by kernel_rfl) (pIs_ok N p0_0 p0_1 p0_2 p0_3 p0_4 p0_5 p0_6 p0_7 p0_8 p0_9 p0_10 p0_11 p0_4 ([25]) g0 A0_0 c0_0 A0_1 c0_1 (some ⟨w33.heap.size, 0, none⟩) 1 _ hc39 w36 (hP38.vwA hv0_0) (hP38.vwA hv0_1) (hP38.vwB 0 rfl) hP38.part) ?_
    rintro _ w41 ⟨rfl, hT43⟩
    have hS42 : St _ _ w41 [rowE .u8 5 (some ⟨w33.heap.size, 0, none⟩) 1 ([25]), plE g0 A0_0 c0_0 A0_1 c0_1 p0_0 p0_1 p0_2 p0_3 p0_4 p0_5 p0_6 p0_7 p0_8 p0_9 p0_10 p0_11] := hP38.lendN _ hT43
    refine ⟨(hS42.pick [1] rfl rfl), ?_⟩
    refine gv1 38 42 (.bool b40) rfl (hS42.pick [1] rfl rfl) ?_
    refine gv1 39 43 (.bool b40) rfl (hS42.pick [1] rfl rfl) ?_
    refine gv1 40 2 (.int .u8 0) rfl (hS42.pick [1] rfl rfl) ?_
    refine gv1 41 3 (.bool b40) rfl (hS42.pick [1] rfl rfl) ?_
    refine gd_done (by kernel_rfl) ?_
    refine gx_thenN ?_
    refine hK4 _ _ ?_
    refine gx_ret ?_
    obtain rfl := Option.some.inj hO15
    exact gx_fin (.tuple #[.int .u8 0, .bool b40]) (by kernel_rfl) (by kernel_rfl) ⟨_, rfl, rfl, (hS42.pick [1] rfl rfl)⟩
   | false =>
    try dsimp only at hO15
    refine gz1 29 33 rfl hS34 ?_
    refine gz1 30 34 rfl hS34 ?_
    refine gz1 31 35 rfl hS34 ?_
    refine gz1 32 36 rfl hS34 ?_
    refine gz1 33 37 rfl hS34 ?_
    refine gz1 34 38 rfl hS34 ?_
    refine gz1 35 39 rfl hS34 ?_
    refine gz1 36 40 rfl hS34 ?_
    refine gz1 37 41 rfl hS34 ?_
    refine gv1 38 42 (.bool false) rfl hS34 ?_
    refine gv1 39 43 (.bool false) rfl hS34 ?_
    refine gv1 40 2 (.int .u8 0) rfl hS34 ?_
    refine gv1 41 3 (.bool false) rfl hS34 ?_
    refine gd_done (by kernel_rfl) ?_
    refine gx_thenN ?_
    refine hK4 _ _ ?_
    refine gx_ret ?_
    obtain rfl := Option.some.inj hO15
    exact gx_fin (.tuple #[.int .u8 0, .bool false]) (by kernel_rfl) (by kernel_rfl) ⟨_, rfl, rfl, hS34⟩
 ·intro hK17
  have hP18 : St _ _ w7 ([plE g0 A0_0 c0_0 A0_1 c0_1 p0_0 p0_1 p0_2 p0_3 p0_4 p0_5 p0_6 p0_7 p0_8 p0_9 p0_10 p0_11] ++ [rowE .u8 5 (some ⟨w5.heap.size, 0, none⟩) 1 ([26])]) := hS8
  obtain ⟨b20, hc19, hE14⟩ := bind_in hE14
  try dsimp only at hE14
  refine gdC 8 { dst := some 12, op := _, type := _, pos := _, after := _, guard := _ } (pIs_R p0_0 p0_1 p0_2 p0_3 p0_4 p0_5 p0_6 p0_7 p0_8 p0_9 p0_10 p0_11 p0_3 ([26]) g0 A0_0 c0_0 A0_1 c0_1 (some ⟨w5.heap.size, 0, none⟩) 1 b20 w7) rfl (by kernel_rfl) (pIs_ok N p0_0 p0_1 p0_2 p0_3 p0_4 p0_5 p0_6 p0_7 p0_8 p0_9 p0_10 p0_11 p0_3 ([26]) g0 A0_0 c0_0 A0_1 c0_1 (some ⟨w5.heap.size, 0, none⟩) 1 _ hc19 w7 (hP18.vwA hv0_0) (hP18.vwA hv0_1) (hP18.vwB 0 rfl) hP18.part) ?_
  rintro _ w21 ⟨rfl, hT23⟩
  have hS22 : St _ _ w21 [rowE .u8 5 (some ⟨w5.heap.size, 0, none⟩) 1 ([26]), plE g0 A0_0 c0_0 A0_1 c0_1 p0_0 p0_1 p0_2 p0_3 p0_4 p0_5 p0_6 p0_7 p0_8 p0_9 p0_10 p0_11] := hP18.lendN _ hT23
  refine ⟨(hS22.pick [1] rfl rfl), ?_⟩
  refine gv1 9 13 (.bool b20) rfl (hS22.pick [1] rfl rfl) ?_
  cases b20 with
  | true =>
   try dsimp only at hE14
   refine gv1 10 14 (.pointer (some ⟨g0, 0, none⟩)) rfl (hS22.pick [1] rfl rfl) ?_
   refine gv1 11 15 (.pointer (some ⟨g0, 0, none⟩)) rfl (hS22.pick [1] rfl rfl) ?_
   refine gv1 12 16 (.pointer (some ⟨g0, 0, none⟩)) rfl (hS22.pick [1] rfl rfl) ?_
   refine gv1 13 17 (.pointer (some ⟨g0, 0, none⟩)) rfl (hS22.pick [1] rfl rfl) ?_
   refine gv1 14 18 (.pointer (some ⟨g0, 0, none⟩)) rfl (hS22.pick [1] rfl rfl) ?_
   refine gv1 15 19 (.pointer (some ⟨g0, 4, none⟩)) rfl (hS22.pick [1] rfl rfl) ?_
   refine gu1 16 20 (.int .i64 p0_4) rfl (hS22.pick [1] rfl rfl) (fun w hSw => run_load1 rfl (by kernel_rfl) (fun _ => by kernel_rfl) (hSw.box 0 rfl 4 rfl)) ?_
   have hP24 : St _ _ w21 ([plE g0 A0_0 c0_0 A0_1 c0_1 p0_0 p0_1 p0_2 p0_3 p0_4 p0_5 p0_6 p0_7 p0_8 p0_9 p0_10 p0_11] ++ [rowE .u8 5 (some ⟨w5.heap.size, 0, none⟩) 1 ([26])]) := hS22.pick [1, 0] rfl rfl
   obtain ⟨b26, hc25, hE14⟩ := bind_in hE14
   try dsimp only at hE14
   refine gdC 17 { dst := some 21, op := _, type := _, pos := _, after := _, guard := _ } (pPict_R p0_0 p0_1 p0_2 p0_3 p0_4 p0_5 p0_6 p0_7 p0_8 p0_9 p0_10 p0_11 p0_4 g0 A0_0 c0_0 A0_1 c0_1 b26 w21) rfl (by kernel_rfl) (pPict_ok N p0_0 p0_1 p0_2 p0_3 p0_4 p0_5 p0_6 p0_7 p0_8 p0_9 p0_10 p0_11 p0_4 g0 A0_0 c0_0 A0_1 c0_1 _ hc25 w21 (hP24.vwA hv0_0) (hP24.vwA hv0_1) hP24.part) ?_
   rintro _ w27 ⟨rfl, hT29⟩
   have hS28 : St _ _ w27 [rowE .u8 5 (some ⟨w5.heap.size, 0, none⟩) 1 ([26]), plE g0 A0_0 c0_0 A0_1 c0_1 p0_0 p0_1 p0_2 p0_3 p0_4 p0_5 p0_6 p0_7 p0_8 p0_9 p0_10 p0_11] := hP24.lendN _ hT29
   refine ⟨(hS28.pick [1] rfl rfl), ?_⟩
   refine gv1 18 22 (.bool b26) rfl (hS28.pick [1] rfl rfl) ?_
   exact gd_to hK17 (by kernel_rfl) ⟨b26, selfA_i (by kernel_rfl), (Option.some.inj hE14), (hS28.pick [1] rfl rfl)⟩
  | false =>
   try dsimp only at hE14
   refine gz1 10 14 rfl (hS22.pick [1] rfl rfl) ?_
   refine gz1 11 15 rfl (hS22.pick [1] rfl rfl) ?_
   refine gz1 12 16 rfl (hS22.pick [1] rfl rfl) ?_
   refine gz1 13 17 rfl (hS22.pick [1] rfl rfl) ?_
   refine gz1 14 18 rfl (hS22.pick [1] rfl rfl) ?_
   refine gz1 15 19 rfl (hS22.pick [1] rfl rfl) ?_
   refine gz1 16 20 rfl (hS22.pick [1] rfl rfl) ?_
   refine gz1 17 21 rfl (hS22.pick [1] rfl rfl) ?_
   refine gv1 18 22 (.bool false) rfl (hS22.pick [1] rfl rfl) ?_
   exact gd_to hK17 (by kernel_rfl) ⟨false, selfA_i (by kernel_rfl), (Option.some.inj hE14), (hS22.pick [1] rfl rfl)⟩
def qSignLetter (N : Nat) (p0_0 : List Int) (p0_1 : List Int) (p0_2 : Int) (p0_3 : Int) (p0_4 : Int) (p0_5 : Int) (p0_6 : Int) (p0_7 : Int) (p0_8 : Int) (p0_9 : Bool) (p0_10 : Bool) (p0_11 : Bool) : Option (Int × Bool) :=
 ((((pSign N p0_0 p0_1 p0_2 p0_3 p0_4 p0_5 p0_6 p0_7 p0_8 p0_9 p0_10 p0_11 p0_3).bind fun b18 => (match b18 with | true => ((pLetter N p0_0 p0_1 p0_2 p0_3 p0_4 p0_5 p0_6 p0_7 p0_8 p0_9 p0_10 p0_11 p0_4).bind fun b24 => some (b24)) | false => some (false))) : Option (Bool)).bind fun b10 => (match b10 with | true => some (0, true) | false => ((pLetter N p0_0 p0_1 p0_2 p0_3 p0_4 p0_5 p0_6 p0_7 p0_8 p0_9 p0_10 p0_11 p0_3).bind fun b30 => (match b30 with | true => ((pSign N p0_0 p0_1 p0_2 p0_3 p0_4 p0_5 p0_6 p0_7 p0_8 p0_9 p0_10 p0_11 p0_4).bind fun b36 => some (0, b36)) | false => some (0, false)))))
set_option linter.unusedVariables false in
def qSignLetter_R (p0_0 : List Int) (p0_1 : List Int) (p0_2 : Int) (p0_3 : Int) (p0_4 : Int) (p0_5 : Int) (p0_6 : Int) (p0_7 : Int) (p0_8 : Int) (p0_9 : Bool) (p0_10 : Bool) (p0_11 : Bool) (g0 : Nat) (A0_0 : Option Addr) (c0_0 : Nat) (A0_1 : Option Addr) (c0_1 : Nat) (r : Int × Bool) (w0 : World) (v : Value) (w : World) : Prop := v = .tuple #[.int .u8 r.1, .bool r.2] ∧ St (foots [plE g0 A0_0 c0_0 A0_1 c0_1 p0_0 p0_1 p0_2 p0_3 p0_4 p0_5 p0_6 p0_7 p0_8 p0_9 p0_10 p0_11]) w0 w [plE g0 A0_0 c0_0 A0_1 c0_1 p0_0 p0_1 p0_2 p0_3 p0_4 p0_5 p0_6 p0_7 p0_8 p0_9 p0_10 p0_11]
set_option maxRecDepth 100000 in
set_option maxHeartbeats 4000000 in
theorem qSignLetter_ok (N : Nat) (p0_0 : List Int) (p0_1 : List Int) (p0_2 : Int) (p0_3 : Int) (p0_4 : Int) (p0_5 : Int) (p0_6 : Int) (p0_7 : Int) (p0_8 : Int) (p0_9 : Bool) (p0_10 : Bool) (p0_11 : Bool) (g0 : Nat) (A0_0 : Option Addr) (c0_0 : Nat) (A0_1 : Option Addr) (c0_1 : Nat) (r : Int × Bool) (hF : qSignLetter N p0_0 p0_1 p0_2 p0_3 p0_4 p0_5 p0_6 p0_7 p0_8 p0_9 p0_10 p0_11 = some r) (w0 : World) (hv0_0 : Vw (foots [plE g0 A0_0 c0_0 A0_1 c0_1 p0_0 p0_1 p0_2 p0_3 p0_4 p0_5 p0_6 p0_7 p0_8 p0_9 p0_10 p0_11]) .i32 w0 A0_0 c0_0 p0_0) (hv0_1 : Vw (foots [plE g0 A0_0 c0_0 A0_1 c0_1 p0_0 p0_1 p0_2 p0_3 p0_4 p0_5 p0_6 p0_7 p0_8 p0_9 p0_10 p0_11]) .u8 w0 A0_1 c0_1 p0_1) (hl : St (foots [plE g0 A0_0 c0_0 A0_1 c0_1 p0_0 p0_1 p0_2 p0_3 p0_4 p0_5 p0_6 p0_7 p0_8 p0_9 p0_10 p0_11]) w0 w0 [plE g0 A0_0 c0_0 A0_1 c0_1 p0_0 p0_1 p0_2 p0_3 p0_4 p0_5 p0_6 p0_7 p0_8 p0_9 p0_10 p0_11]) :
  Calls Try.prog 66 #[.pointer (some ⟨g0, 0, none⟩)] w0 fun e w => ∃ v, e = .returned v ∧ qSignLetter_R p0_0 p0_1 p0_2 p0_3 p0_4 p0_5 p0_6 p0_7 p0_8 p0_9 p0_10 p0_11 g0 A0_0 c0_0 A0_1 c0_1 r w0 v w := by
 have hS0 := hl
 unfold qSignLetter at hF
 refine calls_of Try.func66 rfl ⟨((.pointer (some ⟨g0, 0, none⟩)) :: un 41 ([])).toArray, []⟩ (by kernel_rfl) ?_
 refine gx_seq (fun K1 hK2 => ?_)
 refine gx_region ?_
 refine gx_k (.int .u8 0) w0 (gx_k (.bool false) w0 ?_)
 refine gx_nil ?_
 refine gx_thenN ?_
 refine hK2 _ _ ?_
 refine gx_seq (fun K3 hK4 => ?_)
 refine gd_start (fun w => St (foots [plE g0 A0_0 c0_0 A0_1 c0_1 p0_0 p0_1 p0_2 p0_3 p0_4 p0_5 p0_6 p0_7 p0_8 p0_9 p0_10 p0_11]) w0 w [plE g0 A0_0 c0_0 A0_1 c0_1 p0_0 p0_1 p0_2 p0_3 p0_4 p0_5 p0_6 p0_7 p0_8 p0_9 p0_10 p0_11]) 40 #[false, false, false, false, false, false, false, false, false, false, false, false, false, false, false, false, false, false, false, false, false, false, false, false, false, false, false, false, false, false, false, false, false, false, false, false, false, false, false, false] (by kernel_rfl) (by kernel_rfl) ?_
 have hS6 := hS0.drew
 generalize w0.drew = w5 at hS6 ⊢
 refine gv1 0 4 (.pointer (some ⟨g0, 0, none⟩)) rfl hS6 ?_
 refine gv1 1 5 (.pointer (some ⟨g0, 0, none⟩)) rfl hS6 ?_
 refine gv1 2 6 (.pointer (some ⟨g0, 0, none⟩)) rfl hS6 ?_
 refine gv1 3 7 (.pointer (some ⟨g0, 0, none⟩)) rfl hS6 ?_
 refine gv1 4 8 (.pointer (some ⟨g0, 0, none⟩)) rfl hS6 ?_
 refine gv1 5 9 (.pointer (some ⟨g0, 3, none⟩)) rfl hS6 ?_
 refine gu1 6 10 (.int .i64 p0_3) rfl hS6 (fun w hSw => run_load1 rfl (by kernel_rfl) (fun _ => by kernel_rfl) (hSw.box 0 rfl 3 rfl)) ?_
 obtain ⟨c11, hE12, hO13⟩ := bind_in hF
 refine gd_mid (fun a w => ∃ (b10 : Bool), selfA (fun u9 => ⟨((.pointer (some ⟨g0, 0, none⟩)) :: undef :: (.int .u8 0) :: (.bool false) :: (.pointer (some ⟨g0, 0, none⟩)) :: (.pointer (some ⟨g0, 0, none⟩)) :: (.pointer (some ⟨g0, 0, none⟩)) :: (.pointer (some ⟨g0, 0, none⟩)) :: (.pointer (some ⟨g0, 0, none⟩)) :: (.pointer (some ⟨g0, 3, none⟩)) :: (.int .i64 p0_3) :: dd u9 11 10 ((.bool b10) :: un 20 ([]))).toArray, []⟩) a ∧ b10 = c11 ∧ St (foots [plE g0 A0_0 c0_0 A0_1 c0_1 p0_0 p0_1 p0_2 p0_3 p0_4 p0_5 p0_6 p0_7 p0_8 p0_9 p0_10 p0_11]) w0 w [plE g0 A0_0 c0_0 A0_1 c0_1 p0_0 p0_1 p0_2 p0_3 p0_4 p0_5 p0_6 p0_7 p0_8 p0_9 p0_10 p0_11]) 22 #[true, true, true, true, true, true, true, true, true, true, true, true, true, true, true, true, true, true, false, false, false, false, false, false, false, false, false, false, false, false, false, false, false, false, false, false, false, false, false, false] ?_ ?_
 ·rintro _ w7 ⟨b10, hq14, rfl, hS8⟩
  obtain ⟨u9, rfl⟩ := selfA_u hq14
  try dsimp only at hO13
  refine gv1 18 22 (.bool b10) rfl hS8 ?_
  cases b10 with
  | true =>
   try dsimp only at hO13
   refine gz1 19 23 rfl hS8 ?_
   refine gz1 20 24 rfl hS8 ?_
   refine gz1 21 25 rfl hS8 ?_
   refine gz1 22 26 rfl hS8 ?_
   refine gz1 23 27 rfl hS8 ?_
   refine gz1 24 28 rfl hS8 ?_
   refine gz1 25 29 rfl hS8 ?_
   refine gz1 26 30 rfl hS8 ?_
   refine gz1 27 31 rfl hS8 ?_
   refine gz1 28 32 rfl hS8 ?_
   refine gz1 29 33 rfl hS8 ?_
   refine gz1 30 34 rfl hS8 ?_
   refine gz1 31 35 rfl hS8 ?_
   refine gz1 32 36 rfl hS8 ?_
   refine gz1 33 37 rfl hS8 ?_
   refine gz1 34 38 rfl hS8 ?_
   refine gz1 35 39 rfl hS8 ?_
   refine gz1 36 40 rfl hS8 ?_
   refine gv1 37 41 (.bool true) rfl hS8 ?_
   refine gv1 38 2 (.int .u8 0) rfl hS8 ?_
   refine gv1 39 3 (.bool true) rfl hS8 ?_
   refine gd_done (by kernel_rfl) ?_
   refine gx_thenN ?_
   refine hK4 _ _ ?_
   refine gx_ret ?_
   obtain rfl := Option.some.inj hO13
   exact gx_fin (.tuple #[.int .u8 0, .bool true]) (by kernel_rfl) (by kernel_rfl) ⟨_, rfl, rfl, hS8⟩
  | false =>
   try dsimp only at hO13
   refine gv1 19 23 (.pointer (some ⟨g0, 0, none⟩)) rfl hS8 ?_
   refine gv1 20 24 (.pointer (some ⟨g0, 0, none⟩)) rfl hS8 ?_
   refine gv1 21 25 (.pointer (some ⟨g0, 0, none⟩)) rfl hS8 ?_
   refine gv1 22 26 (.pointer (some ⟨g0, 0, none⟩)) rfl hS8 ?_
   refine gv1 23 27 (.pointer (some ⟨g0, 0, none⟩)) rfl hS8 ?_
   refine gv1 24 28 (.pointer (some ⟨g0, 3, none⟩)) rfl hS8 ?_
   refine gu1 25 29 (.int .i64 p0_3) rfl hS8 (fun w hSw => run_load1 rfl (by kernel_rfl) (fun _ => by kernel_rfl) (hSw.box 0 rfl 3 rfl)) ?_
   have hP28 : St _ _ w7 ([plE g0 A0_0 c0_0 A0_1 c0_1 p0_0 p0_1 p0_2 p0_3 p0_4 p0_5 p0_6 p0_7 p0_8 p0_9 p0_10 p0_11] ++ []) := hS8
   obtain ⟨b30, hc29, hO13⟩ := bind_in hO13
   try dsimp only at hO13
   refine gdC 26 { dst := some 30, op := _, type := _, pos := _, after := _, guard := _ } (pLetter_R p0_0 p0_1 p0_2 p0_3 p0_4 p0_5 p0_6 p0_7 p0_8 p0_9 p0_10 p0_11 p0_3 g0 A0_0 c0_0 A0_1 c0_1 b30 w7) rfl (by kernel_rfl) (pLetter_ok N p0_0 p0_1 p0_2 p0_3 p0_4 p0_5 p0_6 p0_7 p0_8 p0_9 p0_10 p0_11 p0_3 g0 A0_0 c0_0 A0_1 c0_1 _ hc29 w7 (hP28.vwA hv0_0) (hP28.vwA hv0_1) hP28.part) ?_
   rintro _ w31 ⟨rfl, hT33⟩
   have hS32 : St _ _ w31 [plE g0 A0_0 c0_0 A0_1 c0_1 p0_0 p0_1 p0_2 p0_3 p0_4 p0_5 p0_6 p0_7 p0_8 p0_9 p0_10 p0_11] := hP28.lendN _ hT33
   refine ⟨hS32, ?_⟩
   refine gv1 27 31 (.bool b30) rfl hS32 ?_
   cases b30 with
   | true =>
    try dsimp only at hO13
    refine gv1 28 32 (.pointer (some ⟨g0, 0, none⟩)) rfl hS32 ?_
    refine gv1 29 33 (.pointer (some ⟨g0, 0, none⟩)) rfl hS32 ?_
    refine gv1 30 34 (.pointer (some ⟨g0, 0, none⟩)) rfl hS32 ?_
    refine gv1 31 35 (.pointer (some ⟨g0, 0, none⟩)) rfl hS32 ?_
    refine gv1 32 36 (.pointer (some ⟨g0, 0, none⟩)) rfl hS32 ?_
    refine gv1 33 37 (.pointer (some ⟨g0, 4, none⟩)) rfl hS32 ?_
    refine gu1 34 38 (.int .i64 p0_4) rfl hS32 (fun w hSw => run_load1 rfl (by kernel_rfl) (fun _ => by kernel_rfl) (hSw.box 0 rfl 4 rfl)) ?_
    have hP34 : St _ _ w31 ([plE g0 A0_0 c0_0 A0_1 c0_1 p0_0 p0_1 p0_2 p0_3 p0_4 p0_5 p0_6 p0_7 p0_8 p0_9 p0_10 p0_11] ++ []) := hS32
    obtain ⟨b36, hc35, hO13⟩ := bind_in hO13
    try dsimp only at hO13
    refine gdC 35 { dst := some 39, op := _, type := _, pos := _, after := _, guard := _ } (pSign_R p0_0 p0_1 p0_2 p0_3 p0_4 p0_5 p0_6 p0_7 p0_8 p0_9 p0_10 p0_11 p0_4 g0 A0_0 c0_0 A0_1 c0_1 b36 w31) rfl (by kernel_rfl) (pSign_ok N p0_0 p0_1 p0_2 p0_3 p0_4 p0_5 p0_6 p0_7 p0_8 p0_9 p0_10 p0_11 p0_4 g0 A0_0 c0_0 A0_1 c0_1 _ hc35 w31 (hP34.vwA hv0_0) (hP34.vwA hv0_1) hP34.part) ?_
    rintro _ w37 ⟨rfl, hT39⟩
    have hS38 : St _ _ w37 [plE g0 A0_0 c0_0 A0_1 c0_1 p0_0 p0_1 p0_2 p0_3 p0_4 p0_5 p0_6 p0_7 p0_8 p0_9 p0_10 p0_11] := hP34.lendN _ hT39
    refine ⟨hS38, ?_⟩
    refine gv1 36 40 (.bool b36) rfl hS38 ?_
    refine gv1 37 41 (.bool b36) rfl hS38 ?_
    refine gv1 38 2 (.int .u8 0) rfl hS38 ?_
    refine gv1 39 3 (.bool b36) rfl hS38 ?_
    refine gd_done (by kernel_rfl) ?_
    refine gx_thenN ?_
    refine hK4 _ _ ?_
    refine gx_ret ?_
    obtain rfl := Option.some.inj hO13
    exact gx_fin (.tuple #[.int .u8 0, .bool b36]) (by kernel_rfl) (by kernel_rfl) ⟨_, rfl, rfl, hS38⟩
   | false =>
    try dsimp only at hO13
    refine gz1 28 32 rfl hS32 ?_
    refine gz1 29 33 rfl hS32 ?_
    refine gz1 30 34 rfl hS32 ?_
    refine gz1 31 35 rfl hS32 ?_
    refine gz1 32 36 rfl hS32 ?_
    refine gz1 33 37 rfl hS32 ?_
    refine gz1 34 38 rfl hS32 ?_
    refine gz1 35 39 rfl hS32 ?_
    refine gv1 36 40 (.bool false) rfl hS32 ?_
    refine gv1 37 41 (.bool false) rfl hS32 ?_
    refine gv1 38 2 (.int .u8 0) rfl hS32 ?_
    refine gv1 39 3 (.bool false) rfl hS32 ?_
    refine gd_done (by kernel_rfl) ?_
    refine gx_thenN ?_
    refine hK4 _ _ ?_
    refine gx_ret ?_
    obtain rfl := Option.some.inj hO13
    exact gx_fin (.tuple #[.int .u8 0, .bool false]) (by kernel_rfl) (by kernel_rfl) ⟨_, rfl, rfl, hS32⟩
 ·intro hK15
  have hP16 : St _ _ w5 ([plE g0 A0_0 c0_0 A0_1 c0_1 p0_0 p0_1 p0_2 p0_3 p0_4 p0_5 p0_6 p0_7 p0_8 p0_9 p0_10 p0_11] ++ []) := hS6
  obtain ⟨b18, hc17, hE12⟩ := bind_in hE12
  try dsimp only at hE12
  refine gdC 7 { dst := some 11, op := _, type := _, pos := _, after := _, guard := _ } (pSign_R p0_0 p0_1 p0_2 p0_3 p0_4 p0_5 p0_6 p0_7 p0_8 p0_9 p0_10 p0_11 p0_3 g0 A0_0 c0_0 A0_1 c0_1 b18 w5) rfl (by kernel_rfl) (pSign_ok N p0_0 p0_1 p0_2 p0_3 p0_4 p0_5 p0_6 p0_7 p0_8 p0_9 p0_10 p0_11 p0_3 g0 A0_0 c0_0 A0_1 c0_1 _ hc17 w5 (hP16.vwA hv0_0) (hP16.vwA hv0_1) hP16.part) ?_
  rintro _ w19 ⟨rfl, hT21⟩
  have hS20 : St _ _ w19 [plE g0 A0_0 c0_0 A0_1 c0_1 p0_0 p0_1 p0_2 p0_3 p0_4 p0_5 p0_6 p0_7 p0_8 p0_9 p0_10 p0_11] := hP16.lendN _ hT21
  refine ⟨hS20, ?_⟩
  refine gv1 8 12 (.bool b18) rfl hS20 ?_
  cases b18 with
  | true =>
   try dsimp only at hE12
   refine gv1 9 13 (.pointer (some ⟨g0, 0, none⟩)) rfl hS20 ?_
   refine gv1 10 14 (.pointer (some ⟨g0, 0, none⟩)) rfl hS20 ?_
   refine gv1 11 15 (.pointer (some ⟨g0, 0, none⟩)) rfl hS20 ?_
   refine gv1 12 16 (.pointer (some ⟨g0, 0, none⟩)) rfl hS20 ?_
   refine gv1 13 17 (.pointer (some ⟨g0, 0, none⟩)) rfl hS20 ?_
   refine gv1 14 18 (.pointer (some ⟨g0, 4, none⟩)) rfl hS20 ?_
   refine gu1 15 19 (.int .i64 p0_4) rfl hS20 (fun w hSw => run_load1 rfl (by kernel_rfl) (fun _ => by kernel_rfl) (hSw.box 0 rfl 4 rfl)) ?_
   have hP22 : St _ _ w19 ([plE g0 A0_0 c0_0 A0_1 c0_1 p0_0 p0_1 p0_2 p0_3 p0_4 p0_5 p0_6 p0_7 p0_8 p0_9 p0_10 p0_11] ++ []) := hS20
   obtain ⟨b24, hc23, hE12⟩ := bind_in hE12
   try dsimp only at hE12
   refine gdC 16 { dst := some 20, op := _, type := _, pos := _, after := _, guard := _ } (pLetter_R p0_0 p0_1 p0_2 p0_3 p0_4 p0_5 p0_6 p0_7 p0_8 p0_9 p0_10 p0_11 p0_4 g0 A0_0 c0_0 A0_1 c0_1 b24 w19) rfl (by kernel_rfl) (pLetter_ok N p0_0 p0_1 p0_2 p0_3 p0_4 p0_5 p0_6 p0_7 p0_8 p0_9 p0_10 p0_11 p0_4 g0 A0_0 c0_0 A0_1 c0_1 _ hc23 w19 (hP22.vwA hv0_0) (hP22.vwA hv0_1) hP22.part) ?_
   rintro _ w25 ⟨rfl, hT27⟩
   have hS26 : St _ _ w25 [plE g0 A0_0 c0_0 A0_1 c0_1 p0_0 p0_1 p0_2 p0_3 p0_4 p0_5 p0_6 p0_7 p0_8 p0_9 p0_10 p0_11] := hP22.lendN _ hT27
   refine ⟨hS26, ?_⟩
   refine gv1 17 21 (.bool b24) rfl hS26 ?_
   exact gd_to hK15 (by kernel_rfl) ⟨b24, selfA_i (by kernel_rfl), (Option.some.inj hE12), hS26⟩
  | false =>
   try dsimp only at hE12
   refine gz1 9 13 rfl hS20 ?_
   refine gz1 10 14 rfl hS20 ?_
   refine gz1 11 15 rfl hS20 ?_
   refine gz1 12 16 rfl hS20 ?_
   refine gz1 13 17 rfl hS20 ?_
   refine gz1 14 18 rfl hS20 ?_
   refine gz1 15 19 rfl hS20 ?_
   refine gz1 16 20 rfl hS20 ?_
   refine gv1 17 21 (.bool false) rfl hS20 ?_
   exact gd_to hK15 (by kernel_rfl) ⟨false, selfA_i (by kernel_rfl), (Option.some.inj hE12), hS20⟩
end Go.Proofs.Ytdbimchiecdkoaa
