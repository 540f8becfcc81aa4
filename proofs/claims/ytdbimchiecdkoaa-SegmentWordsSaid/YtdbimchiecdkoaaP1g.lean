/-
  The rules, walked.
-/
import Derived.Test.YtdbimchiecdkoaaPJ
namespace Go.Proofs.Ytdbimchiecdkoaa
open Go Go.RowKit
set_option linter.unusedVariables false
def qSignSyllable (N : Nat) (p0_0 : List Int) (p0_1 : List Int) (p0_2 : Int) (p0_3 : Int) (p0_4 : Int) (p0_5 : Int) (p0_6 : Int) (p0_7 : Int) (p0_8 : Int) (p0_9 : Bool) (p0_10 : Bool) (p0_11 : Bool) : Option (Int × Bool) :=
 ((((pSyl N p0_0 p0_1 p0_2 p0_3 p0_4 p0_5 p0_6 p0_7 p0_8 p0_9 p0_10 p0_11 p0_3).bind fun b18 => (match b18 with | true => ((pIs N p0_0 p0_1 p0_2 p0_3 p0_4 p0_5 p0_6 p0_7 p0_8 p0_9 p0_10 p0_11 p0_4 ([25])).bind fun b26 => some (b26)) | false => some (false))) : Option (Bool)).bind fun b10 => (match b10 with | true => some (0, true) | false => ((pIs N p0_0 p0_1 p0_2 p0_3 p0_4 p0_5 p0_6 p0_7 p0_8 p0_9 p0_10 p0_11 p0_3 ([26])).bind fun b34 => (match b34 with | true => ((pSyl N p0_0 p0_1 p0_2 p0_3 p0_4 p0_5 p0_6 p0_7 p0_8 p0_9 p0_10 p0_11 p0_4).bind fun b40 => some (0, b40)) | false => some (0, false)))))
set_option linter.unusedVariables false in
def qSignSyllable_R (p0_0 : List Int) (p0_1 : List Int) (p0_2 : Int) (p0_3 : Int) (p0_4 : Int) (p0_5 : Int) (p0_6 : Int) (p0_7 : Int) (p0_8 : Int) (p0_9 : Bool) (p0_10 : Bool) (p0_11 : Bool) (g0 : Nat) (A0_0 : Option Addr) (c0_0 : Nat) (A0_1 : Option Addr) (c0_1 : Nat) (r : Int × Bool) (w0 : World) (v : Value) (w : World) : Prop := v = .tuple #[.int .u8 r.1, .bool r.2] ∧ St (foots [plE g0 A0_0 c0_0 A0_1 c0_1 p0_0 p0_1 p0_2 p0_3 p0_4 p0_5 p0_6 p0_7 p0_8 p0_9 p0_10 p0_11]) w0 w [plE g0 A0_0 c0_0 A0_1 c0_1 p0_0 p0_1 p0_2 p0_3 p0_4 p0_5 p0_6 p0_7 p0_8 p0_9 p0_10 p0_11]
set_option maxRecDepth 100000 in
set_option maxHeartbeats 4000000 in
theorem qSignSyllable_ok (N : Nat) (p0_0 : List Int) (p0_1 : List Int) (p0_2 : Int) (p0_3 : Int) (p0_4 : Int) (p0_5 : Int) (p0_6 : Int) (p0_7 : Int) (p0_8 : Int) (p0_9 : Bool) (p0_10 : Bool) (p0_11 : Bool) (g0 : Nat) (A0_0 : Option Addr) (c0_0 : Nat) (A0_1 : Option Addr) (c0_1 : Nat) (r : Int × Bool) (hF : qSignSyllable N p0_0 p0_1 p0_2 p0_3 p0_4 p0_5 p0_6 p0_7 p0_8 p0_9 p0_10 p0_11 = some r) (w0 : World) (hv0_0 : Vw (foots [plE g0 A0_0 c0_0 A0_1 c0_1 p0_0 p0_1 p0_2 p0_3 p0_4 p0_5 p0_6 p0_7 p0_8 p0_9 p0_10 p0_11]) .i32 w0 A0_0 c0_0 p0_0) (hv0_1 : Vw (foots [plE g0 A0_0 c0_0 A0_1 c0_1 p0_0 p0_1 p0_2 p0_3 p0_4 p0_5 p0_6 p0_7 p0_8 p0_9 p0_10 p0_11]) .u8 w0 A0_1 c0_1 p0_1) (hl : St (foots [plE g0 A0_0 c0_0 A0_1 c0_1 p0_0 p0_1 p0_2 p0_3 p0_4 p0_5 p0_6 p0_7 p0_8 p0_9 p0_10 p0_11]) w0 w0 [plE g0 A0_0 c0_0 A0_1 c0_1 p0_0 p0_1 p0_2 p0_3 p0_4 p0_5 p0_6 p0_7 p0_8 p0_9 p0_10 p0_11]) :
  Calls Try.prog 72 #[.pointer (some ⟨g0, 0, none⟩)] w0 fun e w => ∃ v, e = .returned v ∧ qSignSyllable_R p0_0 p0_1 p0_2 p0_3 p0_4 p0_5 p0_6 p0_7 p0_8 p0_9 p0_10 p0_11 g0 A0_0 c0_0 A0_1 c0_1 r w0 v w := by
 have hS0 := hl
 unfold qSignSyllable at hF
 refine calls_of Try.func72 rfl ⟨((.pointer (some ⟨g0, 0, none⟩)) :: un 43 ([])).toArray, []⟩ (by kernel_rfl) ?_
 refine gx_seq (fun K1 hK2 => ?_)
 refine gx_region ?_
 refine gx_k (.int .u8 0) w0 (gx_k (.bool false) w0 ?_)
 refine gx_nil ?_
 refine gx_thenN ?_
 refine hK2 _ _ ?_
 refine gx_seq (fun K3 hK4 => ?_)
 refine gd_start (fun w => St (foots [plE g0 A0_0 c0_0 A0_1 c0_1 p0_0 p0_1 p0_2 p0_3 p0_4 p0_5 p0_6 p0_7 p0_8 p0_9 p0_10 p0_11]) w0 w [plE g0 A0_0 c0_0 A0_1 c0_1 p0_0 p0_1 p0_2 p0_3 p0_4 p0_5 p0_6 p0_7 p0_8 p0_9 p0_10 p0_11]) 42 #[false, false, false, false, false, false, false, false, false, false, false, false, false, false, false, false, false, false, false, false, false, false, false, false, false, false, false, false, false, false, false, false, false, false, false, false, false, false, false, false, false, false] (by kernel_rfl) (by kernel_rfl) ?_
 have hS6 := hS0.drew
 generalize w0.drew = w5 at hS6 ⊢
 refine gv1 0 4 (.pointer (some ⟨g0, 0, none⟩)) rfl hS6 ?_
 refine gv1 1 5 (.pointer (some ⟨g0, 0, none⟩)) rfl hS6 ?_
 refine gv1 2 6 (.pointer (some ⟨g0, 0, none⟩)) rfl hS6 ?_
 refine gv1 3 7 (.pointer (some ⟨g0, 0, none⟩)) rfl hS6 ?_
 refine gv1 4 8 (.pointer (some ⟨g0, 0, none⟩)) rfl hS6 ?_
 refine gv1 5 9 (.pointer (some ⟨g0, 3, none⟩)) rfl hS6 ?_
 refine gu1 6 10 (.int .i64 p0_3) rfl hS6 (fun w hSw => run_load1 rfl (by kernel_rfl) (fun _ => by kernel_rfl) (hSw.box 0 rfl 3 rfl)) ?_
 obtain ⟨c11, hE12, hO13⟩ := bind_in hF
 refine gd_mid (fun a w => ∃ (b10 : Bool), selfA (fun u9 => ⟨((.pointer (some ⟨g0, 0, none⟩)) :: undef :: (.int .u8 0) :: (.bool false) :: (.pointer (some ⟨g0, 0, none⟩)) :: (.pointer (some ⟨g0, 0, none⟩)) :: (.pointer (some ⟨g0, 0, none⟩)) :: (.pointer (some ⟨g0, 0, none⟩)) :: (.pointer (some ⟨g0, 0, none⟩)) :: (.pointer (some ⟨g0, 3, none⟩)) :: (.int .i64 p0_3) :: dd u9 11 11 ((.bool b10) :: un 21 ([]))).toArray, []⟩) a ∧ b10 = c11 ∧ St (foots [plE g0 A0_0 c0_0 A0_1 c0_1 p0_0 p0_1 p0_2 p0_3 p0_4 p0_5 p0_6 p0_7 p0_8 p0_9 p0_10 p0_11]) w0 w [plE g0 A0_0 c0_0 A0_1 c0_1 p0_0 p0_1 p0_2 p0_3 p0_4 p0_5 p0_6 p0_7 p0_8 p0_9 p0_10 p0_11]) 23 #[true, true, true, true, true, true, true, true, true, true, true, true, true, true, true, true, true, true, true, false, false, false, false, false, false, false, false, false, false, false, false, false, false, false, false, false, false, false, false, false, false, false] ?_ ?_
 ·rintro _ w7 ⟨b10, hq14, rfl, hS8⟩
  obtain ⟨u9, rfl⟩ := selfA_u hq14
  try dsimp only at hO13
  refine gv1 19 23 (.bool b10) rfl hS8 ?_
  cases b10 with
  | true =>
   try dsimp only at hO13
   refine gz1 20 24 rfl hS8 ?_
   refine gz1 21 25 rfl hS8 ?_
   refine gz1 22 26 rfl hS8 ?_
   refine gz1 23 27 rfl hS8 ?_
   refine gz1 24 28 rfl hS8 ?_
   refine gz1 25 29 rfl hS8 ?_
   refine gz1 26 30 rfl hS8 ?_
   refine gz1 27 31 rfl hS8 ?_
   refine gz1 28 32 rfl hS8 ?_
   refine gz1 29 33 rfl hS8 ?_
   refine gz1 30 34 rfl hS8 ?_
   refine gz1 31 35 rfl hS8 ?_
   refine gz1 32 36 rfl hS8 ?_
   refine gz1 33 37 rfl hS8 ?_
   refine gz1 34 38 rfl hS8 ?_
   refine gz1 35 39 rfl hS8 ?_
   refine gz1 36 40 rfl hS8 ?_
   refine gz1 37 41 rfl hS8 ?_
   refine gz1 38 42 rfl hS8 ?_
   refine gv1 39 43 (.bool true) rfl hS8 ?_
   refine gv1 40 2 (.int .u8 0) rfl hS8 ?_
   refine gv1 41 3 (.bool true) rfl hS8 ?_
   refine gd_done (by kernel_rfl) ?_
   refine gx_thenN ?_
   refine hK4 _ _ ?_
   refine gx_ret ?_
   obtain rfl := Option.some.inj hO13
   exact gx_fin (.tuple #[.int .u8 0, .bool true]) (by kernel_rfl) (by kernel_rfl) ⟨_, rfl, rfl, hS8⟩
  | false =>
   try dsimp only at hO13
   refine gv1 20 24 (.pointer (some ⟨g0, 0, none⟩)) rfl hS8 ?_
   refine gv1 21 25 (.pointer (some ⟨g0, 0, none⟩)) rfl hS8 ?_
   refine gv1 22 26 (.pointer (some ⟨g0, 0, none⟩)) rfl hS8 ?_
   refine gv1 23 27 (.pointer (some ⟨g0, 0, none⟩)) rfl hS8 ?_
   refine gv1 24 28 (.pointer (some ⟨g0, 0, none⟩)) rfl hS8 ?_
   refine gv1 25 29 (.pointer (some ⟨g0, 3, none⟩)) rfl hS8 ?_
   refine gu1 26 30 (.int .i64 p0_3) rfl hS8 (fun w hSw => run_load1 rfl (by kernel_rfl) (fun _ => by kernel_rfl) (hSw.box 0 rfl 3 rfl)) ?_
   refine gdR 27 { dst := some 31, op := _, type := _, pos := _, after := _, guard := _ } rfl (st_made .u8 5 [26] hS8 (by show 1 ≤ 1000000000; decide) (by kernel_rfl)) ?_
   rintro _ w30 ⟨rfl, hS31⟩
   have hS31 : St _ _ w30 [plE g0 A0_0 c0_0 A0_1 c0_1 p0_0 p0_1 p0_2 p0_3 p0_4 p0_5 p0_6 p0_7 p0_8 p0_9 p0_10 p0_11, rowE .u8 5 (some ⟨w7.heap.size, 0, none⟩) 1 ([26])] := hS31
   refine ⟨(hS31.pick [0] rfl rfl), ?_⟩
   have hP32 : St _ _ w30 ([plE g0 A0_0 c0_0 A0_1 c0_1 p0_0 p0_1 p0_2 p0_3 p0_4 p0_5 p0_6 p0_7 p0_8 p0_9 p0_10 p0_11] ++ [rowE .u8 5 (some ⟨w7.heap.size, 0, none⟩) 1 ([26])]) := hS31
   obtain ⟨b34, hc33, hO13⟩ := bind_in hO13
   try dsimp only at hO13
   refine gdC 28 { dst := some 32, op := _, type := _, pos := _, after := _, guard := _ } (pIs_R p0_0 p0_1 p0_2 p0_3 p0_4 p0_5 p0_6 p0_7 p0_8 p0_9 p0_10 p0_11 p0_3 ([26]) g0 A0_0 c0_0 A0_1 c0_1 (some ⟨w7.heap.size, 0, none⟩) 1 b34 w30) rfl (by kernel_rfl) (pIs_ok N p0_0 p0_1 p0_2 p0_3 p0_4 p0_5 p0_6 p0_7 p0_8 p0_9 p0_10 p0_11 p0_3 ([26]) g0 A0_0 c0_0 A0_1 c0_1 (some ⟨w7.heap.size, 0, none⟩) 1 _ hc33 w30 (hP32.vwA hv0_0) (hP32.vwA hv0_1) (hP32.vwB 0 rfl) hP32.part) ?_
   rintro _ w35 ⟨rfl, hT37⟩
   have hS36 : St _ _ w35 [rowE .u8 5 (some ⟨w7.heap.size, 0, none⟩) 1 ([26]), plE g0 A0_0 c0_0 A0_1 c0_1 p0_0 p0_1 p0_2 p0_3 p0_4 p0_5 p0_6 p0_7 p0_8 p0_9 p0_10 p0_11] := hP32.lendN _ hT37
   refine ⟨(hS36.pick [1] rfl rfl), ?_⟩
   refine gv1 29 33 (.bool b34) rfl (hS36.pick [1] rfl rfl) ?_
   cases b34 with
   | true =>
    try dsimp only at hO13
    refine gv1 30 34 (.pointer (some ⟨g0, 0, none⟩)) rfl (hS36.pick [1] rfl rfl) ?_
    refine gv1 31 35 (.pointer (some ⟨g0, 0, none⟩)) rfl (hS36.pick [1] rfl rfl) ?_
    refine gv1 32 36 (.pointer (some ⟨g0, 0, none⟩)) rfl (hS36.pick [1] rfl rfl) ?_
    refine gv1 33 37 (.pointer (some ⟨g0, 0, none⟩)) rfl (hS36.pick [1] rfl rfl) ?_
    refine gv1 34 38 (.pointer (some ⟨g0, 0, none⟩)) rfl (hS36.pick [1] rfl rfl) ?_
    refine gv1 35 39 (.pointer (some ⟨g0, 4, none⟩)) rfl (hS36.pick [1] rfl rfl) ?_
    refine gu1 36 40 (.int .i64 p0_4) rfl (hS36.pick [1] rfl rfl) (fun w hSw => run_load1 rfl (by kernel_rfl) (fun _ => by kernel_rfl) (hSw.box 0 rfl 4 rfl)) ?_
    have hP38 : St _ _ w35 ([plE g0 A0_0 c0_0 A0_1 c0_1 p0_0 p0_1 p0_2 p0_3 p0_4 p0_5 p0_6 p0_7 p0_8 p0_9 p0_10 p0_11] ++ [rowE .u8 5 (some ⟨w7.heap.size, 0, none⟩) 1 ([26])]) := hS36.pick [1, 0] rfl rfl
    obtain ⟨b40, hc39, hO13⟩ := bind_in hO13
    try dsimp only at hO13
    refine gdC 37 { dst := some 41, op := _, type := _, pos := _, after := _, guard := _ } (pSyl_R p0_0 p0_1 p0_2 p0_3 p0_4 p0_5 p0_6 p0_7 p0_8 p0_9 p0_10 p0_11 p0_4 g0 A0_0 c0_0 A0_1 c0_1 b40 w35) rfl (by kernel_rfl) (pSyl_ok N p0_0 p0_1 p0_2 p0_3 p0_4 p0_5 p0_6 p0_7 p0_8 p0_9 p0_10 p0_11 p0_4 g0 A0_0 c0_0 A0_1 c0_1 _ hc39 w35 (hP38.vwA hv0_0) (hP38.vwA hv0_1) hP38.part) ?_
    rintro _ w41 ⟨rfl, hT43⟩
    have hS42 : St _ _ w41 [rowE .u8 5 (some ⟨w7.heap.size, 0, none⟩) 1 ([26]), plE g0 A0_0 c0_0 A0_1 c0_1 p0_0 p0_1 p0_2 p0_3 p0_4 p0_5 p0_6 p0_7 p0_8 p0_9 p0_10 p0_11] := hP38.lendN _ hT43
    refine ⟨(hS42.pick [1] rfl rfl), ?_⟩
    refine gv1 38 42 (.bool b40) rfl (hS42.pick [1] rfl rfl) ?_
    refine gv1 39 43 (.bool b40) rfl (hS42.pick [1] rfl rfl) ?_
    refine gv1 40 2 (.int .u8 0) rfl (hS42.pick [1] rfl rfl) ?_
    refine gv1 41 3 (.bool b40) rfl (hS42.pick [1] rfl rfl) ?_
    refine gd_done (by kernel_rfl) ?_
    refine gx_thenN ?_
    refine hK4 _ _ ?_
    refine gx_ret ?_
    obtain rfl := Option.some.inj hO13
    exact gx_fin (.tuple #[.int .u8 0, .bool b40]) (by kernel_rfl) (by kernel_rfl) ⟨_, rfl, rfl, (hS42.pick [1] rfl rfl)⟩
   | false =>
    try dsimp only at hO13
    refine gz1 30 34 rfl (hS36.pick [1] rfl rfl) ?_
    refine gz1 31 35 rfl (hS36.pick [1] rfl rfl) ?_
    refine gz1 32 36 rfl (hS36.pick [1] rfl rfl) ?_
    refine gz1 33 37 rfl (hS36.pick [1] rfl rfl) ?_
    refine gz1 34 38 rfl (hS36.pick [1] rfl rfl) ?_
    refine gz1 35 39 rfl (hS36.pick [1] rfl rfl) ?_
    refine gz1 36 40 rfl (hS36.pick [1] rfl rfl) ?_
    refine gz1 37 41 rfl (hS36.pick [1] rfl rfl) ?_
    refine gv1 38 42 (.bool false) rfl (hS36.pick [1] rfl rfl) ?_
    refine gv1 39 43 (.bool false) rfl (hS36.pick [1] rfl rfl) ?_
    refine gv1 40 2 (.int .u8 0) rfl (hS36.pick [1] rfl rfl) ?_
    refine gv1 41 3 (.bool false) rfl (hS36.pick [1] rfl rfl) ?_
    refine gd_done (by kernel_rfl) ?_
    refine gx_thenN ?_
    refine hK4 _ _ ?_
    refine gx_ret ?_
    obtain rfl := Option.some.inj hO13
    exact gx_fin (.tuple #[.int .u8 0, .bool false]) (by kernel_rfl) (by kernel_rfl) ⟨_, rfl, rfl, (hS36.pick [1] rfl rfl)⟩
 ·intro hK15
  have hP16 : St _ _ w5 ([plE g0 A0_0 c0_0 A0_1 c0_1 p0_0 p0_1 p0_2 p0_3 p0_4 p0_5 p0_6 p0_7 p0_8 p0_9 p0_10 p0_11] ++ []) := hS6
  obtain ⟨b18, hc17, hE12⟩ := bind_in hE12
  try dsimp only at hE12
  refine gdC 7 { dst := some 11, op := _, type := _, pos := _, after := _, guard := _ } (pSyl_R p0_0 p0_1 p0_2 p0_3 p0_4 p0_5 p0_6 p0_7 p0_8 p0_9 p0_10 p0_11 p0_3 g0 A0_0 c0_0 A0_1 c0_1 b18 w5) rfl (by kernel_rfl) (pSyl_ok N p0_0 p0_1 p0_2 p0_3 p0_4 p0_5 p0_6 p0_7 p0_8 p0_9 p0_10 p0_11 p0_3 g0 A0_0 c0_0 A0_1 c0_1 _ hc17 w5 (hP16.vwA hv0_0) (hP16.vwA hv0_1) hP16.part) ?_
  rintro _ w19 ⟨rfl, hT21⟩
  have hS20 : St _ _ w19 [plE g0 A0_0 c0_0 A0_1 c0_1 p0_0 p0_1 p0_2 p0_3 p0_4 p0_5 p0_6 p0_7 p0_8 p0_9 p0_10 p0_11] := hP16.lendN _ hT21
  refine ⟨hS20, ?_⟩
  refine gv1 8 12 (.bool b18) rfl hS20 ?_
  cases b18 with
  | true =>
   try dsimp only at hE12
   refine gv1 9 13 (.pointer (some ⟨g0, 0, none⟩)) rfl hS20 ?_
   refine gv1 10 14 (.pointer (some ⟨g0, 0, none⟩)) rfl hS20 ?_
   refine gv1 11 15 (.pointer (some ⟨g0, 0, none⟩)) rfl hS20 ?_
   refine gv1 12 16 (.pointer (some ⟨g0, 0, none⟩)) rfl hS20 ?_
   refine gv1 13 17 (.pointer (some ⟨g0, 0, none⟩)) rfl hS20 ?_
   refine gv1 14 18 (.pointer (some ⟨g0, 4, none⟩)) rfl hS20 ?_
   refine gu1 15 19 (.int .i64 p0_4) rfl hS20 (fun w hSw => run_load1 rfl (by kernel_rfl) (fun _ => by kernel_rfl) (hSw.box 0 rfl 4 rfl)) ?_
   refine gdR 16 { dst := some 20, op := _, type := _, pos := _, after := _, guard := _ } rfl (st_made .u8 5 [25] hS20 (by show 1 ≤ 1000000000; decide) (by kernel_rfl)) ?_
   rintro _ w22 ⟨rfl, hS23⟩
   have hS23 : St _ _ w22 [plE g0 A0_0 c0_0 A0_1 c0_1 p0_0 p0_1 p0_2 p0_3 p0_4 p0_5 p0_6 p0_7 p0_8 p0_9 p0_10 p0_11, rowE .u8 5 (some ⟨w19.heap.size, 0, none⟩) 1 ([25])] := hS23
   refine ⟨(hS23.pick [0] rfl rfl), ?_⟩
   have hP24 : St _ _ w22 ([plE g0 A0_0 c0_0 A0_1 c0_1 p0_0 p0_1 p0_2 p0_3 p0_4 p0_5 p0_6 p0_7 p0_8 p0_9 p0_10 p0_11] ++ [rowE .u8 5 (some ⟨w19.heap.size, 0, none⟩) 1 ([25])]) := hS23
   obtain ⟨b26, hc25, hE12⟩ := bind_in hE12
   try dsimp only at hE12
   refine gdC 17 { dst := some 21, op := _, type := _, pos := _, after := _, guard := _ } (pIs_R p0_0 p0_1 p0_2 p0_3 p0_4 p0_5 p0_6 p0_7 p0_8 p0_9 p0_10 p0_11 p0_4 ([25]) g0 A0_0 c0_0 A0_1 c0_1 (some ⟨w19.heap.size, 0, none⟩) 1 b26 w22) rfl (by kernel_rfl) (pIs_ok N p0_0 p0_1 p0_2 p0_3 p0_4 p0_5 p0_6 p0_7 p0_8 p0_9 p0_10 p0_11 p0_4 ([25]) g0 A0_0 c0_0 A0_1 c0_1 (some ⟨w19.heap.size, 0, none⟩) 1 _ hc25 w22 (hP24.vwA hv0_0) (hP24.vwA hv0_1) (hP24.vwB 0 rfl) hP24.part) ?_
   rintro _ w27 ⟨rfl, hT29⟩
   have hS28 : St _ _ w27 [rowE .u8 5 (some ⟨w19.heap.size, 0, none⟩) 1 ([25]), plE g0 A0_0 c0_0 A0_1 c0_1 p0_0 p0_1 p0_2 p0_3 p0_4 p0_5 p0_6 p0_7 p0_8 p0_9 p0_10 p0_11] := hP24.lendN _ hT29
   refine ⟨(hS28.pick [1] rfl rfl), ?_⟩
   refine gv1 18 22 (.bool b26) rfl (hS28.pick [1] rfl rfl) ?_
   exact gd_to hK15 (by kernel_rfl) ⟨b26, selfA_i (by kernel_rfl), (Option.some.inj hE12), (hS28.pick [1] rfl rfl)⟩
  | false =>
   try dsimp only at hE12
   refine gz1 9 13 rfl hS20 ?_
   refine gz1 10 14 rfl hS20 ?_
   refine gz1 11 15 rfl hS20 ?_
   refine gz1 12 16 rfl hS20 ?_
   refine gz1 13 17 rfl hS20 ?_
   refine gz1 14 18 rfl hS20 ?_
   refine gz1 15 19 rfl hS20 ?_
   refine gz1 16 20 rfl hS20 ?_
   refine gz1 17 21 rfl hS20 ?_
   refine gv1 18 22 (.bool false) rfl hS20 ?_
   exact gd_to hK15 (by kernel_rfl) ⟨false, selfA_i (by kernel_rfl), (Option.some.inj hE12), hS20⟩
def qBetweenLetters (N : Nat) (p0_0 : List Int) (p0_1 : List Int) (p0_2 : Int) (p0_3 : Int) (p0_4 : Int) (p0_5 : Int) (p0_6 : Int) (p0_7 : Int) (p0_8 : Int) (p0_9 : Bool) (p0_10 : Bool) (p0_11 : Bool) : Option (Int × Bool) :=
 ((pLetter N p0_0 p0_1 p0_2 p0_3 p0_4 p0_5 p0_6 p0_7 p0_8 p0_9 p0_10 p0_11 p0_3).bind fun b9 => (match b9 with | true => ((pLetter N p0_0 p0_1 p0_2 p0_3 p0_4 p0_5 p0_6 p0_7 p0_8 p0_9 p0_10 p0_11 p0_4).bind fun b15 => some (0, b15)) | false => some (0, false)))
set_option linter.unusedVariables false in
def qBetweenLetters_R (p0_0 : List Int) (p0_1 : List Int) (p0_2 : Int) (p0_3 : Int) (p0_4 : Int) (p0_5 : Int) (p0_6 : Int) (p0_7 : Int) (p0_8 : Int) (p0_9 : Bool) (p0_10 : Bool) (p0_11 : Bool) (g0 : Nat) (A0_0 : Option Addr) (c0_0 : Nat) (A0_1 : Option Addr) (c0_1 : Nat) (r : Int × Bool) (w0 : World) (v : Value) (w : World) : Prop := v = .tuple #[.int .u8 r.1, .bool r.2] ∧ St (foots [plE g0 A0_0 c0_0 A0_1 c0_1 p0_0 p0_1 p0_2 p0_3 p0_4 p0_5 p0_6 p0_7 p0_8 p0_9 p0_10 p0_11]) w0 w [plE g0 A0_0 c0_0 A0_1 c0_1 p0_0 p0_1 p0_2 p0_3 p0_4 p0_5 p0_6 p0_7 p0_8 p0_9 p0_10 p0_11]
set_option maxRecDepth 100000 in
set_option maxHeartbeats 4000000 in
theorem qBetweenLetters_ok (N : Nat) (p0_0 : List Int) (p0_1 : List Int) (p0_2 : Int) (p0_3 : Int) (p0_4 : Int) (p0_5 : Int) (p0_6 : Int) (p0_7 : Int) (p0_8 : Int) (p0_9 : Bool) (p0_10 : Bool) (p0_11 : Bool) (g0 : Nat) (A0_0 : Option Addr) (c0_0 : Nat) (A0_1 : Option Addr) (c0_1 : Nat) (r : Int × Bool) (hF : qBetweenLetters N p0_0 p0_1 p0_2 p0_3 p0_4 p0_5 p0_6 p0_7 p0_8 p0_9 p0_10 p0_11 = some r) (w0 : World) (hv0_0 : Vw (foots [plE g0 A0_0 c0_0 A0_1 c0_1 p0_0 p0_1 p0_2 p0_3 p0_4 p0_5 p0_6 p0_7 p0_8 p0_9 p0_10 p0_11]) .i32 w0 A0_0 c0_0 p0_0) (hv0_1 : Vw (foots [plE g0 A0_0 c0_0 A0_1 c0_1 p0_0 p0_1 p0_2 p0_3 p0_4 p0_5 p0_6 p0_7 p0_8 p0_9 p0_10 p0_11]) .u8 w0 A0_1 c0_1 p0_1) (hl : St (foots [plE g0 A0_0 c0_0 A0_1 c0_1 p0_0 p0_1 p0_2 p0_3 p0_4 p0_5 p0_6 p0_7 p0_8 p0_9 p0_10 p0_11]) w0 w0 [plE g0 A0_0 c0_0 A0_1 c0_1 p0_0 p0_1 p0_2 p0_3 p0_4 p0_5 p0_6 p0_7 p0_8 p0_9 p0_10 p0_11]) :
  Calls Try.prog 73 #[.pointer (some ⟨g0, 0, none⟩)] w0 fun e w => ∃ v, e = .returned v ∧ qBetweenLetters_R p0_0 p0_1 p0_2 p0_3 p0_4 p0_5 p0_6 p0_7 p0_8 p0_9 p0_10 p0_11 g0 A0_0 c0_0 A0_1 c0_1 r w0 v w := by
 have hS0 := hl
 unfold qBetweenLetters at hF
 refine calls_of Try.func73 rfl ⟨((.pointer (some ⟨g0, 0, none⟩)) :: un 21 ([])).toArray, []⟩ (by kernel_rfl) ?_
 refine gx_seq (fun K1 hK2 => ?_)
 refine gx_region ?_
 refine gx_k (.int .u8 0) w0 (gx_k (.bool false) w0 ?_)
 refine gx_nil ?_
 refine gx_thenN ?_
 refine hK2 _ _ ?_
 refine gx_seq (fun K3 hK4 => ?_)
 refine gd_start (fun w => St (foots [plE g0 A0_0 c0_0 A0_1 c0_1 p0_0 p0_1 p0_2 p0_3 p0_4 p0_5 p0_6 p0_7 p0_8 p0_9 p0_10 p0_11]) w0 w [plE g0 A0_0 c0_0 A0_1 c0_1 p0_0 p0_1 p0_2 p0_3 p0_4 p0_5 p0_6 p0_7 p0_8 p0_9 p0_10 p0_11]) 20 #[false, false, false, false, false, false, false, false, false, false, false, false, false, false, false, false, false, false, false, false] (by kernel_rfl) (by kernel_rfl) ?_
 have hS6 := hS0.drew
 generalize w0.drew = w5 at hS6 ⊢
 refine gv1 0 4 (.pointer (some ⟨g0, 0, none⟩)) rfl hS6 ?_
 refine gv1 1 5 (.pointer (some ⟨g0, 0, none⟩)) rfl hS6 ?_
 refine gv1 2 6 (.pointer (some ⟨g0, 0, none⟩)) rfl hS6 ?_
 refine gv1 3 7 (.pointer (some ⟨g0, 0, none⟩)) rfl hS6 ?_
 refine gv1 4 8 (.pointer (some ⟨g0, 0, none⟩)) rfl hS6 ?_
 refine gv1 5 9 (.pointer (some ⟨g0, 3, none⟩)) rfl hS6 ?_
 refine gu1 6 10 (.int .i64 p0_3) rfl hS6 (fun w hSw => run_load1 rfl (by kernel_rfl) (fun _ => by kernel_rfl) (hSw.box 0 rfl 3 rfl)) ?_
 have hP7 : St _ _ w5 ([plE g0 A0_0 c0_0 A0_1 c0_1 p0_0 p0_1 p0_2 p0_3 p0_4 p0_5 p0_6 p0_7 p0_8 p0_9 p0_10 p0_11] ++ []) := hS6
 obtain ⟨b9, hc8, hF⟩ := bind_in hF
 try dsimp only at hF
 refine gdC 7 { dst := some 11, op := _, type := _, pos := _, after := _, guard := _ } (pLetter_R p0_0 p0_1 p0_2 p0_3 p0_4 p0_5 p0_6 p0_7 p0_8 p0_9 p0_10 p0_11 p0_3 g0 A0_0 c0_0 A0_1 c0_1 b9 w5) rfl (by kernel_rfl) (pLetter_ok N p0_0 p0_1 p0_2 p0_3 p0_4 p0_5 p0_6 p0_7 p0_8 p0_9 p0_10 p0_11 p0_3 g0 A0_0 c0_0 A0_1 c0_1 _ hc8 w5 (hP7.vwA hv0_0) (hP7.vwA hv0_1) hP7.part) ?_
 rintro _ w10 ⟨rfl, hT12⟩
 have hS11 : St _ _ w10 [plE g0 A0_0 c0_0 A0_1 c0_1 p0_0 p0_1 p0_2 p0_3 p0_4 p0_5 p0_6 p0_7 p0_8 p0_9 p0_10 p0_11] := hP7.lendN _ hT12
 refine ⟨hS11, ?_⟩
 refine gv1 8 12 (.bool b9) rfl hS11 ?_
 cases b9 with
 | true =>
  try dsimp only at hF
  refine gv1 9 13 (.pointer (some ⟨g0, 0, none⟩)) rfl hS11 ?_
  refine gv1 10 14 (.pointer (some ⟨g0, 0, none⟩)) rfl hS11 ?_
  refine gv1 11 15 (.pointer (some ⟨g0, 0, none⟩)) rfl hS11 ?_
  refine gv1 12 16 (.pointer (some ⟨g0, 0, none⟩)) rfl hS11 ?_
  refine gv1 13 17 (.pointer (some ⟨g0, 0, none⟩)) rfl hS11 ?_
  refine gv1 14 18 (.pointer (some ⟨g0, 4, none⟩)) rfl hS11 ?_
  refine gu1 15 19 (.int .i64 p0_4) rfl hS11 (fun w hSw => run_load1 rfl (by kernel_rfl) (fun _ => by kernel_rfl) (hSw.box 0 rfl 4 rfl)) ?_
  have hP13 : St _ _ w10 ([plE g0 A0_0 c0_0 A0_1 c0_1 p0_0 p0_1 p0_2 p0_3 p0_4 p0_5 p0_6 p0_7 p0_8 p0_9 p0_10 p0_11] ++ []) := hS11
  obtain ⟨b15, hc14, hF⟩ := bind_in hF
  try dsimp only at hF
  refine gdC 16 { dst := some 20, op := _, type := _, pos := _, after := _, guard := _ } (pLetter_R p0_0 p0_1 p0_2 p0_3 p0_4 p0_5 p0_6 p0_7 p0_8 p0_9 p0_10 p0_11 p0_4 g0 A0_0 c0_0 A0_1 c0_1 b15 w10) rfl (by kernel_rfl) (pLetter_ok N p0_0 p0_1 p0_2 p0_3 p0_4 p0_5 p0_6 p0_7 p0_8 p0_9 p0_10 p0_11 p0_4 g0 A0_0 c0_0 A0_1 c0_1 _ hc14 w10 (hP13.vwA hv0_0) (hP13.vwA hv0_1) hP13.part) ?_
  rintro _ w16 ⟨rfl, hT18⟩
  have hS17 : St _ _ w16 [plE g0 A0_0 c0_0 A0_1 c0_1 p0_0 p0_1 p0_2 p0_3 p0_4 p0_5 p0_6 p0_7 p0_8 p0_9 p0_10 p0_11] := hP13.lendN _ hT18
  refine ⟨hS17, ?_⟩
  refine gv1 17 21 (.bool b15) rfl hS17 ?_
  refine gv1 18 2 (.int .u8 0) rfl hS17 ?_
  refine gv1 19 3 (.bool b15) rfl hS17 ?_
  refine gd_done (by kernel_rfl) ?_
  refine gx_thenN ?_
  refine hK4 _ _ ?_
  refine gx_ret ?_
  obtain rfl := Option.some.inj hF
  exact gx_fin (.tuple #[.int .u8 0, .bool b15]) (by kernel_rfl) (by kernel_rfl) ⟨_, rfl, rfl, hS17⟩
 | false =>
  try dsimp only at hF
  refine gz1 9 13 rfl hS11 ?_
  refine gz1 10 14 rfl hS11 ?_
  refine gz1 11 15 rfl hS11 ?_
  refine gz1 12 16 rfl hS11 ?_
  refine gz1 13 17 rfl hS11 ?_
  refine gz1 14 18 rfl hS11 ?_
  refine gz1 15 19 rfl hS11 ?_
  refine gz1 16 20 rfl hS11 ?_
  refine gv1 17 21 (.bool false) rfl hS11 ?_
  refine gv1 18 2 (.int .u8 0) rfl hS11 ?_
  refine gv1 19 3 (.bool false) rfl hS11 ?_
  refine gd_done (by kernel_rfl) ?_
  refine gx_thenN ?_
  refine hK4 _ _ ?_
  refine gx_ret ?_
  obtain rfl := Option.some.inj hF
  exact gx_fin (.tuple #[.int .u8 0, .bool false]) (by kernel_rfl) (by kernel_rfl) ⟨_, rfl, rfl, hS11⟩
def qSeparatorLetter (N : Nat) (p0_0 : List Int) (p0_1 : List Int) (p0_2 : Int) (p0_3 : Int) (p0_4 : Int) (p0_5 : Int) (p0_6 : Int) (p0_7 : Int) (p0_8 : Int) (p0_9 : Bool) (p0_10 : Bool) (p0_11 : Bool) : Option (Int × Bool) :=
 ((pIs N p0_0 p0_1 p0_2 p0_3 p0_4 p0_5 p0_6 p0_7 p0_8 p0_9 p0_10 p0_11 p0_3 ([23])).bind fun b11 => (match b11 with | true => ((pLetter N p0_0 p0_1 p0_2 p0_3 p0_4 p0_5 p0_6 p0_7 p0_8 p0_9 p0_10 p0_11 p0_4).bind fun b17 => some (0, b17)) | false => some (0, false)))
set_option linter.unusedVariables false in
def qSeparatorLetter_R (p0_0 : List Int) (p0_1 : List Int) (p0_2 : Int) (p0_3 : Int) (p0_4 : Int) (p0_5 : Int) (p0_6 : Int) (p0_7 : Int) (p0_8 : Int) (p0_9 : Bool) (p0_10 : Bool) (p0_11 : Bool) (g0 : Nat) (A0_0 : Option Addr) (c0_0 : Nat) (A0_1 : Option Addr) (c0_1 : Nat) (r : Int × Bool) (w0 : World) (v : Value) (w : World) : Prop := v = .tuple #[.int .u8 r.1, .bool r.2] ∧ St (foots [plE g0 A0_0 c0_0 A0_1 c0_1 p0_0 p0_1 p0_2 p0_3 p0_4 p0_5 p0_6 p0_7 p0_8 p0_9 p0_10 p0_11]) w0 w [plE g0 A0_0 c0_0 A0_1 c0_1 p0_0 p0_1 p0_2 p0_3 p0_4 p0_5 p0_6 p0_7 p0_8 p0_9 p0_10 p0_11]
set_option maxRecDepth 100000 in
set_option maxHeartbeats 4000000 in
theorem qSeparatorLetter_ok (N : Nat) (p0_0 : List Int) (p0_1 : List Int) (p0_2 : Int) (p0_3 : Int) (p0_4 : Int) (p0_5 : Int) (p0_6 : Int) (p0_7 : Int) (p0_8 : Int) (p0_9 : Bool) (p0_10 : Bool) (p0_11 : Bool) (g0 : Nat) (A0_0 : Option Addr) (c0_0 : Nat) (A0_1 : Option Addr) (c0_1 : Nat) (r : Int × Bool) (hF : qSeparatorLetter N p0_0 p0_1 p0_2 p0_3 p0_4 p0_5 p0_6 p0_7 p0_8 p0_9 p0_10 p0_11 = some r) (w0 : World) (hv0_0 : Vw (foots [plE g0 A0_0 c0_0 A0_1 c0_1 p0_0 p0_1 p0_2 p0_3 p0_4 p0_5 p0_6 p0_7 p0_8 p0_9 p0_10 p0_11]) .i32 w0 A0_0 c0_0 p0_0) (hv0_1 : Vw (foots [plE g0 A0_0 c0_0 A0_1 c0_1 p0_0 p0_1 p0_2 p0_3 p0_4 p0_5 p0_6 p0_7 p0_8 p0_9 p0_10 p0_11]) .u8 w0 A0_1 c0_1 p0_1) (hl : St (foots [plE g0 A0_0 c0_0 A0_1 c0_1 p0_0 p0_1 p0_2 p0_3 p0_4 p0_5 p0_6 p0_7 p0_8 p0_9 p0_10 p0_11]) w0 w0 [plE g0 A0_0 c0_0 A0_1 c0_1 p0_0 p0_1 p0_2 p0_3 p0_4 p0_5 p0_6 p0_7 p0_8 p0_9 p0_10 p0_11]) :
  Calls Try.prog 74 #[.pointer (some ⟨g0, 0, none⟩)] w0 fun e w => ∃ v, e = .returned v ∧ qSeparatorLetter_R p0_0 p0_1 p0_2 p0_3 p0_4 p0_5 p0_6 p0_7 p0_8 p0_9 p0_10 p0_11 g0 A0_0 c0_0 A0_1 c0_1 r w0 v w := by
 have hS0 := hl
 unfold qSeparatorLetter at hF
 refine calls_of Try.func74 rfl ⟨((.pointer (some ⟨g0, 0, none⟩)) :: un 22 ([])).toArray, []⟩ (by kernel_rfl) ?_
 refine gx_seq (fun K1 hK2 => ?_)
 refine gx_region ?_
 refine gx_k (.int .u8 0) w0 (gx_k (.bool false) w0 ?_)
 refine gx_nil ?_
 refine gx_thenN ?_
 refine hK2 _ _ ?_
 refine gx_seq (fun K3 hK4 => ?_)
 refine gd_start (fun w => St (foots [plE g0 A0_0 c0_0 A0_1 c0_1 p0_0 p0_1 p0_2 p0_3 p0_4 p0_5 p0_6 p0_7 p0_8 p0_9 p0_10 p0_11]) w0 w [plE g0 A0_0 c0_0 A0_1 c0_1 p0_0 p0_1 p0_2 p0_3 p0_4 p0_5 p0_6 p0_7 p0_8 p0_9 p0_10 p0_11]) 21 #[false, false, false, false, false, false, false, false, false, false, false, false, false, false, false, false, false, false, false, false, false] (by kernel_rfl) (by kernel_rfl) ?_
 have hS6 := hS0.drew
 generalize w0.drew = w5 at hS6 ⊢
 refine gv1 0 4 (.pointer (some ⟨g0, 0, none⟩)) rfl hS6 ?_
 refine gv1 1 5 (.pointer (some ⟨g0, 0, none⟩)) rfl hS6 ?_
 refine gv1 2 6 (.pointer (some ⟨g0, 0, none⟩)) rfl hS6 ?_
 refine gv1 3 7 (.pointer (some ⟨g0, 0, none⟩)) rfl hS6 ?_
 refine gv1 4 8 (.pointer (some ⟨g0, 0, none⟩)) rfl hS6 ?_
 refine gv1 5 9 (.pointer (some ⟨g0, 3, none⟩)) rfl hS6 ?_
 refine gu1 6 10 (.int .i64 p0_3) rfl hS6 (fun w hSw => run_load1 rfl (by kernel_rfl) (fun _ => by kernel_rfl) (hSw.box 0 rfl 3 rfl)) ?_
 refine gdR 7 { dst := some 11, op := _, type := _, pos := _, after := _, guard := _ } rfl (st_made .u8 5 [23] hS6 (by show 1 ≤ 1000000000; decide) (by kernel_rfl)) ?_
 rintro _ w7 ⟨rfl, hS8⟩
 have hS8 : St _ _ w7 [plE g0 A0_0 c0_0 A0_1 c0_1 p0_0 p0_1 p0_2 p0_3 p0_4 p0_5 p0_6 p0_7 p0_8 p0_9 p0_10 p0_11, rowE .u8 5 (some ⟨w5.heap.size, 0, none⟩) 1 ([23])] := hS8
 refine ⟨(hS8.pick [0] rfl rfl), ?_⟩
 have hP9 : St _ _ w7 ([plE g0 A0_0 c0_0 A0_1 c0_1 p0_0 p0_1 p0_2 p0_3 p0_4 p0_5 p0_6 p0_7 p0_8 p0_9 p0_10 p0_11] ++ [rowE .u8 5 (some ⟨w5.heap.size, 0, none⟩) 1 ([23])]) := hS8
 obtain ⟨b11, hc10, hF⟩ := bind_in hF
 try dsimp only at hF
 refine gdC 8 { dst := some 12, op := _, type := _, pos := _, after := _, guard := _ } (pIs_R p0_0 p0_1 p0_2 p0_3 p0_4 p0_5 p0_6 p0_7 p0_8 p0_9 p0_10 p0_11 p0_3 ([23]) g0 A0_0 c0_0 A0_1 c0_1 (some ⟨w5.heap.size, 0, none⟩) 1 b11 w7) rfl (by kernel_rfl) (pIs_ok N p0_0 p0_1 p0_2 p0_3 p0_4 p0_5 p0_6 p0_7 p0_8 p0_9 p0_10 p0_11 p0_3 ([23]) g0 A0_0 c0_0 A0_1 c0_1 (some ⟨w5.heap.size, 0, none⟩) 1 _ hc10 w7 (hP9.vwA hv0_0) (hP9.vwA hv0_1) (hP9.vwB 0 rfl) hP9.part) ?_
 rintro _ w12 ⟨rfl, hT14⟩
 have hS13 : St _ _ w12 [rowE .u8 5 (some ⟨w5.heap.size, 0, none⟩) 1 ([23]), plE g0 A0_0 c0_0 A0_1 c0_1 p0_0 p0_1 p0_2 p0_3 p0_4 p0_5 p0_6 p0_7 p0_8 p0_9 p0_10 p0_11] := hP9.lendN _ hT14
 refine ⟨(hS13.pick [1] rfl rfl), ?_⟩
 refine gv1 9 13 (.bool b11) rfl (hS13.pick [1] rfl rfl) ?_
 cases b11 with
 | true =>
  try dsimp only at hF
  refine gv1 10 14 (.pointer (some ⟨g0, 0, none⟩)) rfl (hS13.pick [1] rfl rfl) ?_
  refine gv1 11 15 (.pointer (some ⟨g0, 0, none⟩)) rfl (hS13.pick [1] rfl rfl) ?_
  refine gv1 12 16 (.pointer (some ⟨g0, 0, none⟩)) rfl (hS13.pick [1] rfl rfl) ?_
  refine gv1 13 17 (.pointer (some ⟨g0, 0, none⟩)) rfl (hS13.pick [1] rfl rfl) ?_
  refine gv1 14 18 (.pointer (some ⟨g0, 0, none⟩)) rfl (hS13.pick [1] rfl rfl) ?_
  refine gv1 15 19 (.pointer (some ⟨g0, 4, none⟩)) rfl (hS13.pick [1] rfl rfl) ?_
  refine gu1 16 20 (.int .i64 p0_4) rfl (hS13.pick [1] rfl rfl) (fun w hSw => run_load1 rfl (by kernel_rfl) (fun _ => by kernel_rfl) (hSw.box 0 rfl 4 rfl)) ?_
  have hP15 : St _ _ w12 ([plE g0 A0_0 c0_0 A0_1 c0_1 p0_0 p0_1 p0_2 p0_3 p0_4 p0_5 p0_6 p0_7 p0_8 p0_9 p0_10 p0_11] ++ [rowE .u8 5 (some ⟨w5.heap.size, 0, none⟩) 1 ([23])]) := hS13.pick [1, 0] rfl rfl
  obtain ⟨b17, hc16, hF⟩ := bind_in hF
  try dsimp only at hF
  refine gdC 17 { dst := some 21, op := _, type := _, pos := _, after := _, guard := _ } (pLetter_R p0_0 p0_1 p0_2 p0_3 p0_4 p0_5 p0_6 p0_7 p0_8 p0_9 p0_10 p0_11 p0_4 g0 A0_0 c0_0 A0_1 c0_1 b17 w12) rfl (by kernel_rfl) (pLetter_ok N p0_0 p0_1 p0_2 p0_3 p0_4 p0_5 p0_6 p0_7 p0_8 p0_9 p0_10 p0_11 p0_4 g0 A0_0 c0_0 A0_1 c0_1 _ hc16 w12 (hP15.vwA hv0_0) (hP15.vwA hv0_1) hP15.part) ?_
  rintro _ w18 ⟨rfl, hT20⟩
  have hS19 : St _ _ w18 [rowE .u8 5 (some ⟨w5.heap.size, 0, none⟩) 1 ([23]), plE g0 A0_0 c0_0 A0_1 c0_1 p0_0 p0_1 p0_2 p0_3 p0_4 p0_5 p0_6 p0_7 p0_8 p0_9 p0_10 p0_11] := hP15.lendN _ hT20
  refine ⟨(hS19.pick [1] rfl rfl), ?_⟩
  refine gv1 18 22 (.bool b17) rfl (hS19.pick [1] rfl rfl) ?_
  refine gv1 19 2 (.int .u8 0) rfl (hS19.pick [1] rfl rfl) ?_
  refine gv1 20 3 (.bool b17) rfl (hS19.pick [1] rfl rfl) ?_
  refine gd_done (by kernel_rfl) ?_
  refine gx_thenN ?_
  refine hK4 _ _ ?_
  refine gx_ret ?_
  obtain rfl := Option.some.inj hF
  exact gx_fin (.tuple #[.int .u8 0, .bool b17]) (by kernel_rfl) (by kernel_rfl) ⟨_, rfl, rfl, (hS19.pick [1] rfl rfl)⟩
 | false =>
  try dsimp only at hF
  refine gz1 10 14 rfl (hS13.pick [1] rfl rfl) ?_
  refine gz1 11 15 rfl (hS13.pick [1] rfl rfl) ?_
  refine gz1 12 16 rfl (hS13.pick [1] rfl rfl) ?_
  refine gz1 13 17 rfl (hS13.pick [1] rfl rfl) ?_
  refine gz1 14 18 rfl (hS13.pick [1] rfl rfl) ?_
  refine gz1 15 19 rfl (hS13.pick [1] rfl rfl) ?_
  refine gz1 16 20 rfl (hS13.pick [1] rfl rfl) ?_
  refine gz1 17 21 rfl (hS13.pick [1] rfl rfl) ?_
  refine gv1 18 22 (.bool false) rfl (hS13.pick [1] rfl rfl) ?_
  refine gv1 19 2 (.int .u8 0) rfl (hS13.pick [1] rfl rfl) ?_
  refine gv1 20 3 (.bool false) rfl (hS13.pick [1] rfl rfl) ?_
  refine gd_done (by kernel_rfl) ?_
  refine gx_thenN ?_
  refine hK4 _ _ ?_
  refine gx_ret ?_
  obtain rfl := Option.some.inj hF
  exact gx_fin (.tuple #[.int .u8 0, .bool false]) (by kernel_rfl) (by kernel_rfl) ⟨_, rfl, rfl, (hS13.pick [1] rfl rfl)⟩
def qBesideBracket (N : Nat) (p0_0 : List Int) (p0_1 : List Int) (p0_2 : Int) (p0_3 : Int) (p0_4 : Int) (p0_5 : Int) (p0_6 : Int) (p0_7 : Int) (p0_8 : Int) (p0_9 : Bool) (p0_10 : Bool) (p0_11 : Bool) : Option (Int × Bool) :=
 ((((pOfWord N p0_0 p0_1 p0_2 p0_3 p0_4 p0_5 p0_6 p0_7 p0_8 p0_9 p0_10 p0_11 p0_3).bind fun b18 => (match b18 with | true => ((pIs N p0_0 p0_1 p0_2 p0_3 p0_4 p0_5 p0_6 p0_7 p0_8 p0_9 p0_10 p0_11 p0_4 ([19])).bind fun b26 => some (b26)) | false => some (false))) : Option (Bool)).bind fun b10 => (((match b10 with | true => ((pWide N p0_0 p0_1 p0_2 p0_3 p0_4 p0_5 p0_6 p0_7 p0_8 p0_9 p0_10 p0_11 p0_4).bind fun b41 => (match b41 with | true => some (false) | false => some (true))) | false => some (false)) : Option (Bool)).bind fun b33 => (match b33 with | true => some (0, true) | false => ((((pIs N p0_0 p0_1 p0_2 p0_3 p0_4 p0_5 p0_6 p0_7 p0_8 p0_9 p0_10 p0_11 p0_3 ([20])).bind fun b58 => (match b58 with | true => ((pWide N p0_0 p0_1 p0_2 p0_3 p0_4 p0_5 p0_6 p0_7 p0_8 p0_9 p0_10 p0_11 p0_3).bind fun b64 => (match b64 with | true => some (false) | false => some (true))) | false => some (false))) : Option (Bool)).bind fun b50 => (match b50 with | true => ((pOfWord N p0_0 p0_1 p0_2 p0_3 p0_4 p0_5 p0_6 p0_7 p0_8 p0_9 p0_10 p0_11 p0_4).bind fun b70 => some (0, b70)) | false => some (0, false))))))
set_option linter.unusedVariables false in
def qBesideBracket_R (p0_0 : List Int) (p0_1 : List Int) (p0_2 : Int) (p0_3 : Int) (p0_4 : Int) (p0_5 : Int) (p0_6 : Int) (p0_7 : Int) (p0_8 : Int) (p0_9 : Bool) (p0_10 : Bool) (p0_11 : Bool) (g0 : Nat) (A0_0 : Option Addr) (c0_0 : Nat) (A0_1 : Option Addr) (c0_1 : Nat) (r : Int × Bool) (w0 : World) (v : Value) (w : World) : Prop := v = .tuple #[.int .u8 r.1, .bool r.2] ∧ St (foots [plE g0 A0_0 c0_0 A0_1 c0_1 p0_0 p0_1 p0_2 p0_3 p0_4 p0_5 p0_6 p0_7 p0_8 p0_9 p0_10 p0_11]) w0 w [plE g0 A0_0 c0_0 A0_1 c0_1 p0_0 p0_1 p0_2 p0_3 p0_4 p0_5 p0_6 p0_7 p0_8 p0_9 p0_10 p0_11]
set_option maxRecDepth 100000 in
set_option maxHeartbeats 4000000 in
theorem qBesideBracket_ok (N : Nat) (p0_0 : List Int) (p0_1 : List Int) (p0_2 : Int) (p0_3 : Int) (p0_4 : Int) (p0_5 : Int) (p0_6 : Int) (p0_7 : Int) (p0_8 : Int) (p0_9 : Bool) (p0_10 : Bool) (p0_11 : Bool) (g0 : Nat) (A0_0 : Option Addr) (c0_0 : Nat) (A0_1 : Option Addr) (c0_1 : Nat) (r : Int × Bool) (hF : qBesideBracket N p0_0 p0_1 p0_2 p0_3 p0_4 p0_5 p0_6 p0_7 p0_8 p0_9 p0_10 p0_11 = some r) (w0 : World) (hv0_0 : Vw (foots [plE g0 A0_0 c0_0 A0_1 c0_1 p0_0 p0_1 p0_2 p0_3 p0_4 p0_5 p0_6 p0_7 p0_8 p0_9 p0_10 p0_11]) .i32 w0 A0_0 c0_0 p0_0) (hv0_1 : Vw (foots [plE g0 A0_0 c0_0 A0_1 c0_1 p0_0 p0_1 p0_2 p0_3 p0_4 p0_5 p0_6 p0_7 p0_8 p0_9 p0_10 p0_11]) .u8 w0 A0_1 c0_1 p0_1) (hl : St (foots [plE g0 A0_0 c0_0 A0_1 c0_1 p0_0 p0_1 p0_2 p0_3 p0_4 p0_5 p0_6 p0_7 p0_8 p0_9 p0_10 p0_11]) w0 w0 [plE g0 A0_0 c0_0 A0_1 c0_1 p0_0 p0_1 p0_2 p0_3 p0_4 p0_5 p0_6 p0_7 p0_8 p0_9 p0_10 p0_11]) :
  Calls Try.prog 75 #[.pointer (some ⟨g0, 0, none⟩)] w0 fun e w => ∃ v, e = .returned v ∧ qBesideBracket_R p0_0 p0_1 p0_2 p0_3 p0_4 p0_5 p0_6 p0_7 p0_8 p0_9 p0_10 p0_11 g0 A0_0 c0_0 A0_1 c0_1 r w0 v w := by
 have hS0 := hl
 unfold qBesideBracket at hF
 refine calls_of Try.func75 rfl ⟨((.pointer (some ⟨g0, 0, none⟩)) :: un 65 ([])).toArray, []⟩ (by kernel_rfl) ?_
 refine gx_seq (fun K1 hK2 => ?_)
 refine gx_region ?_
 refine gx_k (.int .u8 0) w0 (gx_k (.bool false) w0 ?_)
 refine gx_nil ?_
 refine gx_thenN ?_
 refine hK2 _ _ ?_
 refine gx_seq (fun K3 hK4 => ?_)
 refine gd_start (fun w => St (foots [plE g0 A0_0 c0_0 A0_1 c0_1 p0_0 p0_1 p0_2 p0_3 p0_4 p0_5 p0_6 p0_7 p0_8 p0_9 p0_10 p0_11]) w0 w [plE g0 A0_0 c0_0 A0_1 c0_1 p0_0 p0_1 p0_2 p0_3 p0_4 p0_5 p0_6 p0_7 p0_8 p0_9 p0_10 p0_11]) 64 #[false, false, false, false, false, false, false, false, false, false, false, false, false, false, false, false, false, false, false, false, false, false, false, false, false, false, false, false, false, false, false, false, false, false, false, false, false, false, false, false, false, false, false, false, false, false, false, false, false, false, false, false, false, false, false, false, false, false, false, false, false, false, false, false] (by kernel_rfl) (by kernel_rfl) ?_
 have hS6 := hS0.drew
 generalize w0.drew = w5 at hS6 ⊢
 refine gv1 0 4 (.pointer (some ⟨g0, 0, none⟩)) rfl hS6 ?_
 refine gv1 1 5 (.pointer (some ⟨g0, 0, none⟩)) rfl hS6 ?_
 refine gv1 2 6 (.pointer (some ⟨g0, 0, none⟩)) rfl hS6 ?_
 refine gv1 3 7 (.pointer (some ⟨g0, 0, none⟩)) rfl hS6 ?_
 refine gv1 4 8 (.pointer (some ⟨g0, 0, none⟩)) rfl hS6 ?_
 refine gv1 5 9 (.pointer (some ⟨g0, 3, none⟩)) rfl hS6 ?_
 refine gu1 6 10 (.int .i64 p0_3) rfl hS6 (fun w hSw => run_load1 rfl (by kernel_rfl) (fun _ => by kernel_rfl) (hSw.box 0 rfl 3 rfl)) ?_
 obtain ⟨c11, hE12, hO13⟩ := bind_in hF
 refine gd_mid (fun a w => ∃ (b10 : Bool), selfA (fun u9 => ⟨((.pointer (some ⟨g0, 0, none⟩)) :: undef :: (.int .u8 0) :: (.bool false) :: (.pointer (some ⟨g0, 0, none⟩)) :: (.pointer (some ⟨g0, 0, none⟩)) :: (.pointer (some ⟨g0, 0, none⟩)) :: (.pointer (some ⟨g0, 0, none⟩)) :: (.pointer (some ⟨g0, 0, none⟩)) :: (.pointer (some ⟨g0, 3, none⟩)) :: (.int .i64 p0_3) :: dd u9 11 11 ((.bool b10) :: un 43 ([]))).toArray, []⟩) a ∧ b10 = c11 ∧ St (foots [plE g0 A0_0 c0_0 A0_1 c0_1 p0_0 p0_1 p0_2 p0_3 p0_4 p0_5 p0_6 p0_7 p0_8 p0_9 p0_10 p0_11]) w0 w [plE g0 A0_0 c0_0 A0_1 c0_1 p0_0 p0_1 p0_2 p0_3 p0_4 p0_5 p0_6 p0_7 p0_8 p0_9 p0_10 p0_11]) 45 #[true, true, true, true, true, true, true, true, true, true, true, true, true, true, true, true, true, true, true, false, false, false, false, false, false, false, false, false, false, false, false, false, false, false, false, false, false, false, false, false, false, false, false, false, false, false, false, false, false, false, false, false, false, false, false, false, false, false, false, false, false, false, false, false] ?_ ?_
 ·rintro _ w7 ⟨b10, hq14, rfl, hS8⟩
  obtain ⟨u9, rfl⟩ := selfA_u hq14
  try dsimp only at hO13
  obtain ⟨c34, hE35, hO36⟩ := bind_in hO13
  refine gd_mid (fun a w => ∃ (b33 : Bool), selfA (fun u32 => ⟨((.pointer (some ⟨g0, 0, none⟩)) :: undef :: (.int .u8 0) :: (.bool false) :: (.pointer (some ⟨g0, 0, none⟩)) :: (.pointer (some ⟨g0, 0, none⟩)) :: (.pointer (some ⟨g0, 0, none⟩)) :: (.pointer (some ⟨g0, 0, none⟩)) :: (.pointer (some ⟨g0, 0, none⟩)) :: (.pointer (some ⟨g0, 3, none⟩)) :: (.int .i64 p0_3) :: dd u9 11 11 ((.bool b10) :: dd u32 23 10 ((.bool b33) :: un 32 ([])))).toArray, []⟩) a ∧ b33 = c34 ∧ St (foots [plE g0 A0_0 c0_0 A0_1 c0_1 p0_0 p0_1 p0_2 p0_3 p0_4 p0_5 p0_6 p0_7 p0_8 p0_9 p0_10 p0_11]) w0 w [plE g0 A0_0 c0_0 A0_1 c0_1 p0_0 p0_1 p0_2 p0_3 p0_4 p0_5 p0_6 p0_7 p0_8 p0_9 p0_10 p0_11]) 34 #[true, true, true, true, true, true, true, true, true, true, true, true, true, true, true, true, true, true, true, true, true, true, true, true, true, true, true, true, true, true, false, false, false, false, false, false, false, false, false, false, false, false, false, false, false, false, false, false, false, false, false, false, false, false, false, false, false, false, false, false, false, false, false, false] ?_ ?_
  ·rintro _ w30 ⟨b33, hq37, rfl, hS31⟩
   obtain ⟨u32, rfl⟩ := selfA_u hq37
   try dsimp only at hO36
   refine gv1 30 34 (.bool b33) rfl hS31 ?_
   cases b33 with
   | true =>
    try dsimp only at hO36
    refine gz1 31 35 rfl hS31 ?_
    refine gz1 32 36 rfl hS31 ?_
    refine gz1 33 37 rfl hS31 ?_
    refine gz1 34 38 rfl hS31 ?_
    refine gz1 35 39 rfl hS31 ?_
    refine gz1 36 40 rfl hS31 ?_
    refine gz1 37 41 rfl hS31 ?_
    refine gz1 38 42 rfl hS31 ?_
    refine gz1 39 43 rfl hS31 ?_
    refine gz1 40 44 rfl hS31 ?_
    refine gz1 41 45 rfl hS31 ?_
    refine gz1 42 46 rfl hS31 ?_
    refine gz1 43 47 rfl hS31 ?_
    refine gz1 44 48 rfl hS31 ?_
    refine gz1 45 49 rfl hS31 ?_
    refine gz1 46 50 rfl hS31 ?_
    refine gz1 47 51 rfl hS31 ?_
    refine gz1 48 52 rfl hS31 ?_
    refine gz1 49 53 rfl hS31 ?_
    refine gz1 50 54 rfl hS31 ?_
    refine gz1 51 55 rfl hS31 ?_
    refine gz1 52 56 rfl hS31 ?_
    refine gz1 53 57 rfl hS31 ?_
    refine gz1 54 58 rfl hS31 ?_
    refine gz1 55 59 rfl hS31 ?_
    refine gz1 56 60 rfl hS31 ?_
    refine gz1 57 61 rfl hS31 ?_
    refine gz1 58 62 rfl hS31 ?_
    refine gz1 59 63 rfl hS31 ?_
    refine gz1 60 64 rfl hS31 ?_
    refine gv1 61 65 (.bool true) rfl hS31 ?_
    refine gv1 62 2 (.int .u8 0) rfl hS31 ?_
    refine gv1 63 3 (.bool true) rfl hS31 ?_
    refine gd_done (by kernel_rfl) ?_
    refine gx_thenN ?_
    refine hK4 _ _ ?_
    refine gx_ret ?_
    obtain rfl := Option.some.inj hO36
    exact gx_fin (.tuple #[.int .u8 0, .bool true]) (by kernel_rfl) (by kernel_rfl) ⟨_, rfl, rfl, hS31⟩
   | false =>
    try dsimp only at hO36
    refine gv1 31 35 (.pointer (some ⟨g0, 0, none⟩)) rfl hS31 ?_
    refine gv1 32 36 (.pointer (some ⟨g0, 0, none⟩)) rfl hS31 ?_
    refine gv1 33 37 (.pointer (some ⟨g0, 0, none⟩)) rfl hS31 ?_
    refine gv1 34 38 (.pointer (some ⟨g0, 0, none⟩)) rfl hS31 ?_
    refine gv1 35 39 (.pointer (some ⟨g0, 0, none⟩)) rfl hS31 ?_
    refine gv1 36 40 (.pointer (some ⟨g0, 3, none⟩)) rfl hS31 ?_
    refine gu1 37 41 (.int .i64 p0_3) rfl hS31 (fun w hSw => run_load1 rfl (by kernel_rfl) (fun _ => by kernel_rfl) (hSw.box 0 rfl 3 rfl)) ?_
    refine gdR 38 { dst := some 42, op := _, type := _, pos := _, after := _, guard := _ } rfl (st_made .u8 5 [20] hS31 (by show 1 ≤ 1000000000; decide) (by kernel_rfl)) ?_
    rintro _ w45 ⟨rfl, hS46⟩
    have hS46 : St _ _ w45 [plE g0 A0_0 c0_0 A0_1 c0_1 p0_0 p0_1 p0_2 p0_3 p0_4 p0_5 p0_6 p0_7 p0_8 p0_9 p0_10 p0_11, rowE .u8 5 (some ⟨w30.heap.size, 0, none⟩) 1 ([20])] := hS46
    refine ⟨(hS46.pick [0] rfl rfl), ?_⟩
    obtain ⟨c51, hE52, hO53⟩ := bind_in hO36
    refine gd_mid (fun a w => ∃ (b50 : Bool), selfA (fun u49 => ⟨((.pointer (some ⟨g0, 0, none⟩)) :: undef :: (.int .u8 0) :: (.bool false) :: (.pointer (some ⟨g0, 0, none⟩)) :: (.pointer (some ⟨g0, 0, none⟩)) :: (.pointer (some ⟨g0, 0, none⟩)) :: (.pointer (some ⟨g0, 0, none⟩)) :: (.pointer (some ⟨g0, 0, none⟩)) :: (.pointer (some ⟨g0, 3, none⟩)) :: (.int .i64 p0_3) :: dd u9 11 11 ((.bool b10) :: dd u32 23 10 ((.bool false) :: (.bool false) :: (.pointer (some ⟨g0, 0, none⟩)) :: (.pointer (some ⟨g0, 0, none⟩)) :: (.pointer (some ⟨g0, 0, none⟩)) :: (.pointer (some ⟨g0, 0, none⟩)) :: (.pointer (some ⟨g0, 0, none⟩)) :: (.pointer (some ⟨g0, 3, none⟩)) :: (.int .i64 p0_3) :: dd u49 42 12 ((.bool b50) :: un 11 ([]))))).toArray, []⟩) a ∧ b50 = c51 ∧ St (foots [plE g0 A0_0 c0_0 A0_1 c0_1 p0_0 p0_1 p0_2 p0_3 p0_4 p0_5 p0_6 p0_7 p0_8 p0_9 p0_10 p0_11]) w0 w [plE g0 A0_0 c0_0 A0_1 c0_1 p0_0 p0_1 p0_2 p0_3 p0_4 p0_5 p0_6 p0_7 p0_8 p0_9 p0_10 p0_11]) 13 #[true, true, true, true, true, true, true, true, true, true, true, true, true, true, true, true, true, true, true, true, true, true, true, true, true, true, true, true, true, true, true, true, true, true, true, true, true, true, true, true, true, true, true, true, true, true, true, true, true, true, true, false, false, false, false, false, false, false, false, false, false, false, false, false] ?_ ?_
    ·rintro _ w47 ⟨b50, hq54, rfl, hS48⟩
     obtain ⟨u49, rfl⟩ := selfA_u hq54
     try dsimp only at hO53
     refine gv1 51 55 (.bool b50) rfl hS48 ?_
     cases b50 with
     | true =>
      try dsimp only at hO53
      refine gv1 52 56 (.pointer (some ⟨g0, 0, none⟩)) rfl hS48 ?_
      refine gv1 53 57 (.pointer (some ⟨g0, 0, none⟩)) rfl hS48 ?_
      refine gv1 54 58 (.pointer (some ⟨g0, 0, none⟩)) rfl hS48 ?_
      refine gv1 55 59 (.pointer (some ⟨g0, 0, none⟩)) rfl hS48 ?_
      refine gv1 56 60 (.pointer (some ⟨g0, 0, none⟩)) rfl hS48 ?_
      refine gv1 57 61 (.pointer (some ⟨g0, 4, none⟩)) rfl hS48 ?_
      refine gu1 58 62 (.int .i64 p0_4) rfl hS48 (fun w hSw => run_load1 rfl (by kernel_rfl) (fun _ => by kernel_rfl) (hSw.box 0 rfl 4 rfl)) ?_
      have hP68 : St _ _ w47 ([plE g0 A0_0 c0_0 A0_1 c0_1 p0_0 p0_1 p0_2 p0_3 p0_4 p0_5 p0_6 p0_7 p0_8 p0_9 p0_10 p0_11] ++ []) := hS48
      obtain ⟨b70, hc69, hO53⟩ := bind_in hO53
      try dsimp only at hO53
      refine gdC 59 { dst := some 63, op := _, type := _, pos := _, after := _, guard := _ } (pOfWord_R p0_0 p0_1 p0_2 p0_3 p0_4 p0_5 p0_6 p0_7 p0_8 p0_9 p0_10 p0_11 p0_4 g0 A0_0 c0_0 A0_1 c0_1 b70 w47) rfl (by kernel_rfl) (pOfWord_ok N p0_0 p0_1 p0_2 p0_3 p0_4 p0_5 p0_6 p0_7 p0_8 p0_9 p0_10 p0_11 p0_4 g0 A0_0 c0_0 A0_1 c0_1 _ hc69 w47 (hP68.vwA hv0_0) (hP68.vwA hv0_1) hP68.part) ?_
      rintro _ w71 ⟨rfl, hT73⟩
      have hS72 : St _ _ w71 [plE g0 A0_0 c0_0 A0_1 c0_1 p0_0 p0_1 p0_2 p0_3 p0_4 p0_5 p0_6 p0_7 p0_8 p0_9 p0_10 p0_11] := hP68.lendN _ hT73
      refine ⟨hS72, ?_⟩
      refine gv1 60 64 (.bool b70) rfl hS72 ?_
      refine gv1 61 65 (.bool b70) rfl hS72 ?_
      refine gv1 62 2 (.int .u8 0) rfl hS72 ?_
      refine gv1 63 3 (.bool b70) rfl hS72 ?_
      refine gd_done (by kernel_rfl) ?_
      refine gx_thenN ?_
      refine hK4 _ _ ?_
      refine gx_ret ?_
      obtain rfl := Option.some.inj hO53
      exact gx_fin (.tuple #[.int .u8 0, .bool b70]) (by kernel_rfl) (by kernel_rfl) ⟨_, rfl, rfl, hS72⟩
     | false =>
      try dsimp only at hO53
      refine gz1 52 56 rfl hS48 ?_
      refine gz1 53 57 rfl hS48 ?_
      refine gz1 54 58 rfl hS48 ?_
      refine gz1 55 59 rfl hS48 ?_
      refine gz1 56 60 rfl hS48 ?_
      refine gz1 57 61 rfl hS48 ?_
      refine gz1 58 62 rfl hS48 ?_
      refine gz1 59 63 rfl hS48 ?_
      refine gv1 60 64 (.bool false) rfl hS48 ?_
      refine gv1 61 65 (.bool false) rfl hS48 ?_
      refine gv1 62 2 (.int .u8 0) rfl hS48 ?_
      refine gv1 63 3 (.bool false) rfl hS48 ?_
      refine gd_done (by kernel_rfl) ?_
      refine gx_thenN ?_
      refine hK4 _ _ ?_
      refine gx_ret ?_
      obtain rfl := Option.some.inj hO53
      exact gx_fin (.tuple #[.int .u8 0, .bool false]) (by kernel_rfl) (by kernel_rfl) ⟨_, rfl, rfl, hS48⟩
    ·intro hK55
     have hP56 : St _ _ w45 ([plE g0 A0_0 c0_0 A0_1 c0_1 p0_0 p0_1 p0_2 p0_3 p0_4 p0_5 p0_6 p0_7 p0_8 p0_9 p0_10 p0_11] ++ [rowE .u8 5 (some ⟨w30.heap.size, 0, none⟩) 1 ([20])]) := hS46
     obtain ⟨b58, hc57, hE52⟩ := bind_in hE52
     try dsimp only at hE52
     refine gdC 39 { dst := some 43, op := _, type := _, pos := _, after := _, guard := _ } (pIs_R p0_0 p0_1 p0_2 p0_3 p0_4 p0_5 p0_6 p0_7 p0_8 p0_9 p0_10 p0_11 p0_3 ([20]) g0 A0_0 c0_0 A0_1 c0_1 (some ⟨w30.heap.size, 0, none⟩) 1 b58 w45) rfl (by kernel_rfl) (pIs_ok N p0_0 p0_1 p0_2 p0_3 p0_4 p0_5 p0_6 p0_7 p0_8 p0_9 p0_10 p0_11 p0_3 ([20]) g0 A0_0 c0_0 A0_1 c0_1 (some ⟨w30.heap.size, 0, none⟩) 1 _ hc57 w45 (hP56.vwA hv0_0) (hP56.vwA hv0_1) (hP56.vwB 0 rfl) hP56.part) ?_
     rintro _ w59 ⟨rfl, hT61⟩
     have hS60 : St _ _ w59 [rowE .u8 5 (some ⟨w30.heap.size, 0, none⟩) 1 ([20]), plE g0 A0_0 c0_0 A0_1 c0_1 p0_0 p0_1 p0_2 p0_3 p0_4 p0_5 p0_6 p0_7 p0_8 p0_9 p0_10 p0_11] := hP56.lendN _ hT61
     refine ⟨(hS60.pick [1] rfl rfl), ?_⟩
     refine gv1 40 44 (.bool b58) rfl (hS60.pick [1] rfl rfl) ?_
     cases b58 with
     | true =>
      try dsimp only at hE52
      refine gv1 41 45 (.pointer (some ⟨g0, 0, none⟩)) rfl (hS60.pick [1] rfl rfl) ?_
      refine gv1 42 46 (.pointer (some ⟨g0, 0, none⟩)) rfl (hS60.pick [1] rfl rfl) ?_
      refine gv1 43 47 (.pointer (some ⟨g0, 0, none⟩)) rfl (hS60.pick [1] rfl rfl) ?_
      refine gv1 44 48 (.pointer (some ⟨g0, 0, none⟩)) rfl (hS60.pick [1] rfl rfl) ?_
      refine gv1 45 49 (.pointer (some ⟨g0, 0, none⟩)) rfl (hS60.pick [1] rfl rfl) ?_
      refine gv1 46 50 (.pointer (some ⟨g0, 3, none⟩)) rfl (hS60.pick [1] rfl rfl) ?_
      refine gu1 47 51 (.int .i64 p0_3) rfl (hS60.pick [1] rfl rfl) (fun w hSw => run_load1 rfl (by kernel_rfl) (fun _ => by kernel_rfl) (hSw.box 0 rfl 3 rfl)) ?_
      have hP62 : St _ _ w59 ([plE g0 A0_0 c0_0 A0_1 c0_1 p0_0 p0_1 p0_2 p0_3 p0_4 p0_5 p0_6 p0_7 p0_8 p0_9 p0_10 p0_11] ++ [rowE .u8 5 (some ⟨w30.heap.size, 0, none⟩) 1 ([20])]) := hS60.pick [1, 0] rfl rfl
      obtain ⟨b64, hc63, hE52⟩ := bind_in hE52
      try dsimp only at hE52
      refine gdC 48 { dst := some 52, op := _, type := _, pos := _, after := _, guard := _ } (pWide_R p0_0 p0_1 p0_2 p0_3 p0_4 p0_5 p0_6 p0_7 p0_8 p0_9 p0_10 p0_11 p0_3 g0 A0_0 c0_0 A0_1 c0_1 b64 w59) rfl (by kernel_rfl) (pWide_ok N p0_0 p0_1 p0_2 p0_3 p0_4 p0_5 p0_6 p0_7 p0_8 p0_9 p0_10 p0_11 p0_3 g0 A0_0 c0_0 A0_1 c0_1 _ hc63 w59 (hP62.vwA hv0_0) (hP62.vwA hv0_1) hP62.part) ?_
      rintro _ w65 ⟨rfl, hT67⟩
      have hS66 : St _ _ w65 [rowE .u8 5 (some ⟨w30.heap.size, 0, none⟩) 1 ([20]), plE g0 A0_0 c0_0 A0_1 c0_1 p0_0 p0_1 p0_2 p0_3 p0_4 p0_5 p0_6 p0_7 p0_8 p0_9 p0_10 p0_11] := hP62.lendN _ hT67
      refine ⟨(hS66.pick [1] rfl rfl), ?_⟩
      cases b64 with
      | true =>
       try dsimp only at hE52
       refine gv1 49 53 (.bool false) rfl (hS66.pick [1] rfl rfl) ?_
       refine gv1 50 54 (.bool false) rfl (hS66.pick [1] rfl rfl) ?_
       exact gd_to hK55 (by kernel_rfl) ⟨false, selfA_i (by kernel_rfl), (Option.some.inj hE52), (hS66.pick [1] rfl rfl)⟩
      | false =>
       try dsimp only at hE52
       refine gv1 49 53 (.bool true) rfl (hS66.pick [1] rfl rfl) ?_
       refine gv1 50 54 (.bool true) rfl (hS66.pick [1] rfl rfl) ?_
       exact gd_to hK55 (by kernel_rfl) ⟨true, selfA_i (by kernel_rfl), (Option.some.inj hE52), (hS66.pick [1] rfl rfl)⟩
     | false =>
      try dsimp only at hE52
      refine gz1 41 45 rfl (hS60.pick [1] rfl rfl) ?_
      refine gz1 42 46 rfl (hS60.pick [1] rfl rfl) ?_
      refine gz1 43 47 rfl (hS60.pick [1] rfl rfl) ?_
      refine gz1 44 48 rfl (hS60.pick [1] rfl rfl) ?_
      refine gz1 45 49 rfl (hS60.pick [1] rfl rfl) ?_
      refine gz1 46 50 rfl (hS60.pick [1] rfl rfl) ?_
      refine gz1 47 51 rfl (hS60.pick [1] rfl rfl) ?_
      refine gz1 48 52 rfl (hS60.pick [1] rfl rfl) ?_
      refine gz1 49 53 rfl (hS60.pick [1] rfl rfl) ?_
      refine gv1 50 54 (.bool false) rfl (hS60.pick [1] rfl rfl) ?_
      exact gd_to hK55 (by kernel_rfl) ⟨false, selfA_i (by kernel_rfl), (Option.some.inj hE52), (hS60.pick [1] rfl rfl)⟩
  ·intro hK38
   refine gv1 19 23 (.bool b10) rfl hS8 ?_
   cases b10 with
   | true =>
    try dsimp only at hE35
    refine gv1 20 24 (.pointer (some ⟨g0, 0, none⟩)) rfl hS8 ?_
    refine gv1 21 25 (.pointer (some ⟨g0, 0, none⟩)) rfl hS8 ?_
    refine gv1 22 26 (.pointer (some ⟨g0, 0, none⟩)) rfl hS8 ?_
    refine gv1 23 27 (.pointer (some ⟨g0, 0, none⟩)) rfl hS8 ?_
    refine gv1 24 28 (.pointer (some ⟨g0, 0, none⟩)) rfl hS8 ?_
    refine gv1 25 29 (.pointer (some ⟨g0, 4, none⟩)) rfl hS8 ?_
    refine gu1 26 30 (.int .i64 p0_4) rfl hS8 (fun w hSw => run_load1 rfl (by kernel_rfl) (fun _ => by kernel_rfl) (hSw.box 0 rfl 4 rfl)) ?_
    have hP39 : St _ _ w7 ([plE g0 A0_0 c0_0 A0_1 c0_1 p0_0 p0_1 p0_2 p0_3 p0_4 p0_5 p0_6 p0_7 p0_8 p0_9 p0_10 p0_11] ++ []) := hS8
    obtain ⟨b41, hc40, hE35⟩ := bind_in hE35
    try dsimp only at hE35
    refine gdC 27 { dst := some 31, op := _, type := _, pos := _, after := _, guard := _ } (pWide_R p0_0 p0_1 p0_2 p0_3 p0_4 p0_5 p0_6 p0_7 p0_8 p0_9 p0_10 p0_11 p0_4 g0 A0_0 c0_0 A0_1 c0_1 b41 w7) rfl (by kernel_rfl) (pWide_ok N p0_0 p0_1 p0_2 p0_3 p0_4 p0_5 p0_6 p0_7 p0_8 p0_9 p0_10 p0_11 p0_4 g0 A0_0 c0_0 A0_1 c0_1 _ hc40 w7 (hP39.vwA hv0_0) (hP39.vwA hv0_1) hP39.part) ?_
    rintro _ w42 ⟨rfl, hT44⟩
    have hS43 : St _ _ w42 [plE g0 A0_0 c0_0 A0_1 c0_1 p0_0 p0_1 p0_2 p0_3 p0_4 p0_5 p0_6 p0_7 p0_8 p0_9 p0_10 p0_11] := hP39.lendN _ hT44
    refine ⟨hS43, ?_⟩
    cases b41 with
    | true =>
     try dsimp only at hE35
     refine gv1 28 32 (.bool false) rfl hS43 ?_
     refine gv1 29 33 (.bool false) rfl hS43 ?_
     exact gd_to hK38 (by kernel_rfl) ⟨false, selfA_i (by kernel_rfl), (Option.some.inj hE35), hS43⟩
    | false =>
     try dsimp only at hE35
     refine gv1 28 32 (.bool true) rfl hS43 ?_
     refine gv1 29 33 (.bool true) rfl hS43 ?_
     exact gd_to hK38 (by kernel_rfl) ⟨true, selfA_i (by kernel_rfl), (Option.some.inj hE35), hS43⟩
   | false =>
    try dsimp only at hE35
    refine gz1 20 24 rfl hS8 ?_
    refine gz1 21 25 rfl hS8 ?_
    refine gz1 22 26 rfl hS8 ?_
    refine gz1 23 27 rfl hS8 ?_
    refine gz1 24 28 rfl hS8 ?_
    refine gz1 25 29 rfl hS8 ?_
    refine gz1 26 30 rfl hS8 ?_
    refine gz1 27 31 rfl hS8 ?_
    refine gz1 28 32 rfl hS8 ?_
    refine gv1 29 33 (.bool false) rfl hS8 ?_
    exact gd_to hK38 (by kernel_rfl) ⟨false, selfA_i (by kernel_rfl), (Option.some.inj hE35), hS8⟩
 ·intro hK15
  have hP16 : St _ _ w5 ([plE g0 A0_0 c0_0 A0_1 c0_1 p0_0 p0_1 p0_2 p0_3 p0_4 p0_5 p0_6 p0_7 p0_8 p0_9 p0_10 p0_11] ++ []) := hS6
  obtain ⟨b18, hc17, hE12⟩ := bind_in hE12
  try dsimp only at hE12
  refine gdC 7 { dst := some 11, op := _, type := _, pos := _, after := _, guard := _ } (pOfWord_R p0_0 p0_1 p0_2 p0_3 p0_4 p0_5 p0_6 p0_7 p0_8 p0_9 p0_10 p0_11 p0_3 g0 A0_0 c0_0 A0_1 c0_1 b18 w5) rfl (by kernel_rfl) (pOfWord_ok N p0_0 p0_1 p0_2 p0_3 p0_4 p0_5 p0_6 p0_7 p0_8 p0_9 p0_10 p0_11 p0_3 g0 A0_0 c0_0 A0_1 c0_1 _ hc17 w5 (hP16.vwA hv0_0) (hP16.vwA hv0_1) hP16.part) ?_
  rintro _ w19 ⟨rfl, hT21⟩
  have hS20 : St _ _ w19 [plE g0 A0_0 c0_0 A0_1 c0_1 p0_0 p0_1 p0_2 p0_3 p0_4 p0_5 p0_6 p0_7 p0_8 p0_9 p0_10 p0_11] := hP16.lendN _ hT21
  refine ⟨hS20, ?_⟩
  refine gv1 8 12 (.bool b18) rfl hS20 ?_
  cases b18 with
  | true =>
   try dsimp only at hE12
   refine gv1 9 13 (.pointer (some ⟨g0, 0, none⟩)) rfl hS20 ?_
   refine gv1 10 14 (.pointer (some ⟨g0, 0, none⟩)) rfl hS20 ?_
   refine gv1 11 15 (.pointer (some ⟨g0, 0, none⟩)) rfl hS20 ?_
   refine gv1 12 16 (.pointer (some ⟨g0, 0, none⟩)) rfl hS20 ?_
   refine gv1 13 17 (.pointer (some ⟨g0, 0, none⟩)) rfl hS20 ?_
   refine gv1 14 18 (.pointer (some ⟨g0, 4, none⟩)) rfl hS20 ?_
   refine gu1 15 19 (.int .i64 p0_4) rfl hS20 (fun w hSw => run_load1 rfl (by kernel_rfl) (fun _ => by kernel_rfl) (hSw.box 0 rfl 4 rfl)) ?_
   refine gdR 16 { dst := some 20, op := _, type := _, pos := _, after := _, guard := _ } rfl (st_made .u8 5 [19] hS20 (by show 1 ≤ 1000000000; decide) (by kernel_rfl)) ?_
   rintro _ w22 ⟨rfl, hS23⟩
   have hS23 : St _ _ w22 [plE g0 A0_0 c0_0 A0_1 c0_1 p0_0 p0_1 p0_2 p0_3 p0_4 p0_5 p0_6 p0_7 p0_8 p0_9 p0_10 p0_11, rowE .u8 5 (some ⟨w19.heap.size, 0, none⟩) 1 ([19])] := hS23
   refine ⟨(hS23.pick [0] rfl rfl), ?_⟩
   have hP24 : St _ _ w22 ([plE g0 A0_0 c0_0 A0_1 c0_1 p0_0 p0_1 p0_2 p0_3 p0_4 p0_5 p0_6 p0_7 p0_8 p0_9 p0_10 p0_11] ++ [rowE .u8 5 (some ⟨w19.heap.size, 0, none⟩) 1 ([19])]) := hS23
   obtain ⟨b26, hc25, hE12⟩ := bind_in hE12
   try dsimp only at hE12
   refine gdC 17 { dst := some 21, op := _, type := _, pos := _, after := _, guard := _ } (pIs_R p0_0 p0_1 p0_2 p0_3 p0_4 p0_5 p0_6 p0_7 p0_8 p0_9 p0_10 p0_11 p0_4 ([19]) g0 A0_0 c0_0 A0_1 c0_1 (some ⟨w19.heap.size, 0, none⟩) 1 b26 w22) rfl (by kernel_rfl) (pIs_ok N p0_0 p0_1 p0_2 p0_3 p0_4 p0_5 p0_6 p0_7 p0_8 p0_9 p0_10 p0_11 p0_4 ([19]) g0 A0_0 c0_0 A0_1 c0_1 (some ⟨w19.heap.size, 0, none⟩) 1 _ hc25 w22 (hP24.vwA hv0_0) (hP24.vwA hv0_1) (hP24.vwB 0 rfl) hP24.part) ?_
   rintro _ w27 ⟨rfl, hT29⟩
   have hS28 : St _ _ w27 [rowE .u8 5 (some ⟨w19.heap.size, 0, none⟩) 1 ([19]), plE g0 A0_0 c0_0 A0_1 c0_1 p0_0 p0_1 p0_2 p0_3 p0_4 p0_5 p0_6 p0_7 p0_8 p0_9 p0_10 p0_11] := hP24.lendN _ hT29
   refine ⟨(hS28.pick [1] rfl rfl), ?_⟩
   refine gv1 18 22 (.bool b26) rfl (hS28.pick [1] rfl rfl) ?_
   exact gd_to hK15 (by kernel_rfl) ⟨b26, selfA_i (by kernel_rfl), (Option.some.inj hE12), (hS28.pick [1] rfl rfl)⟩
  | false =>
   try dsimp only at hE12
   refine gz1 9 13 rfl hS20 ?_
   refine gz1 10 14 rfl hS20 ?_
   refine gz1 11 15 rfl hS20 ?_
   refine gz1 12 16 rfl hS20 ?_
   refine gz1 13 17 rfl hS20 ?_
   refine gz1 14 18 rfl hS20 ?_
   refine gz1 15 19 rfl hS20 ?_
   refine gz1 16 20 rfl hS20 ?_
   refine gz1 17 21 rfl hS20 ?_
   refine gv1 18 22 (.bool false) rfl hS20 ?_
   exact gd_to hK15 (by kernel_rfl) ⟨false, selfA_i (by kernel_rfl), (Option.some.inj hE12), hS20⟩
end Go.Proofs.Ytdbimchiecdkoaa
