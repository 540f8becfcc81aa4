/-
  EmbedLevels, walked.
-/
import Derived.Test.YtapfdafmhiilkaaF0
namespace Go.Proofs.Ytapfdafmhiilkaa
open Go Go.RowKit
set_option linter.unusedVariables false

def fLevels (N : Nat) (p0 : List Int) (p1 : Int) : Option (Bool) :=
 (if ((p0.length : Nat) : Int) > 2000 then ((kWorks N ).bind fun b12 => some b12) else ((apx ([]) p0).bind fun l21 => ((pLevels N l21 p1).bind fun (l32, l35, x38, x39) => ((rLevels N p0 p1).bind fun (l47, l50, x53, x54) => ((((kSame N l32 l35 l47 l50).bind fun b70 => (match b70 with | true => (if x38 = x53 then some (true) else some (false)) | false => some (false))) : Option (Bool)).bind fun b63 => (((match b63 with | true => (if x39 = x54 then some (true) else some (false)) | false => some (false)) : Option (Bool)).bind fun b78 => (match b78 with | true => ((kSame N ([]) l21 ([]) p0).bind fun b88 => (match b88 with | true => ((kWorks N ).bind fun b94 => some b94) | false => some false)) | false => some false)))))))

set_option linter.unusedVariables false in
def fLevels_R (r : Bool) (w0 : World) (v : Value) (w : World) : Prop := v = .bool r ∧ St [] w0 w []

set_option maxRecDepth 100000 in
set_option maxHeartbeats 4000000 in
theorem fLevels_ok (N : Nat) (p0 : List Int) (p1 : Int) (A0 : Option Addr) (c0 : Nat) (r : Bool) (hF : fLevels N p0 p1 = some r) (w0 : World) (hv0 : Vw [] .u8 w0 A0 c0 p0) :
  Calls Try.prog 4 #[.slice A0 p0.length c0, .int .u8 p1] w0 fun e w => ∃ v, e = .returned v ∧ fLevels_R r w0 v w := by
 have hS0 := St.start w0
 unfold fLevels at hF
 refine calls_of Try.func4 rfl ⟨((.slice A0 p0.length c0) :: (.int .u8 p1) :: un 58 ([])).toArray, []⟩ (by kernel_rfl) ?_
 refine gx_seq (fun K1 hK2 => ?_)
 refine gx_region ?_
 refine gx_k (.bool false) w0 ?_
 refine gx_nil ?_
 refine gx_thenN ?_
 refine hK2 _ _ ?_
 refine gx_seq (fun K3 hK4 => ?_)
 refine gx_seq (fun K5 hK6 => ?_)
 refine gx_region ?_
 refine gx_k (.slice A0 p0.length c0) w0 (gx_k (.int .i64 ((p0.length : Nat) : Int)) w0 ?_)
 rcases if_in hF with ⟨h7, hF⟩ | ⟨h7, hF⟩
 ·refine gx_v (.bool true) w0 (run_boolE (decide_eq_true h7) (by kernel_rfl)) ?_
  refine gx_nil ?_
  refine gx_thenN ?_
  refine hK6 _ _ ?_
  refine gx_yes (by kernel_rfl) ?_
  refine gx_seq (fun K8 hK9 => ?_)
  refine gx_region ?_
  have hP10 : St _ _ w0 ([] ++ []) := hS0
  obtain ⟨b12, hc11, hF⟩ := bind_in hF
  try dsimp only at hF
  refine gx_c (kWorks_R b12 w0) (kWorks_ok N  _ hc11 w0 ) ?_
  rintro _ w13 ⟨rfl, hT15⟩
  have hS14 : St _ _ w13 [] := hS0.take _ hT15
  refine gx_k (.bool b12) w13 ?_
  refine gx_nil ?_
  refine gx_thenN ?_
  refine hK9 _ _ ?_
  refine gx_ret ?_
  refine gx_thenR ?_
  obtain rfl := Option.some.inj hF
  exact gx_fin (.bool b12) (by kernel_rfl) (by kernel_rfl) ⟨_, rfl, rfl, hS14⟩
 ·refine gx_v (.bool false) w0 (run_boolE (decide_eq_false h7) (by kernel_rfl)) ?_
  refine gx_nil ?_
  refine gx_thenN ?_
  refine hK6 _ _ ?_
  refine gx_no (by kernel_rfl) ?_
  refine gx_pass ?_
  refine gx_thenN ?_
  refine hK4 _ _ ?_
  refine gx_seq (fun K16 hK17 => ?_)
  refine gx_region ?_
  refine gx_k (.slice none 0 0) w0 ?_
  refine gx_nil ?_
  refine gx_thenN ?_
  refine hK17 _ _ ?_
  refine gx_seq (fun K18 hK19 => ?_)
  refine gx_region ?_
  refine gx_k (.slice none 0 0) w0 (gx_k (.slice A0 p0.length c0) w0 ?_)
  have hS20 : St _ _ w0 [rowE .u8 26 none 0 ([])] := hS0.nilrow .u8 26
  obtain ⟨l21, ha22, hF⟩ := bind_in hF
  obtain ⟨ha22, hq23⟩ := apx_in ha22
  refine gx_r (st_append rfl (by kernel_rfl) (by kernel_rfl) hS20 0 rfl (hS20.view hv0) hv0.nn ha22 (by kernel_rfl) (by kernel_rfl)) ?_
  rintro _ w26 ⟨A24, c25, rfl, hS27⟩
  rw [← hq23] at hS27 ⊢
  have hS27 : St _ _ w26 [rowE .u8 26 A24 c25 l21] := hS27
  refine gx_k (.slice A24 l21.length c25) w26 ?_
  refine gx_nil ?_
  refine gx_thenN ?_
  refine hK19 _ _ ?_
  refine gx_seq (fun K28 hK29 => ?_)
  refine gx_region ?_
  refine gx_k (.slice A24 l21.length c25) w26 (gx_k (.int .u8 p1) w26 ?_)
  have hP30 : St _ _ w26 ([] ++ [rowE .u8 26 A24 c25 l21]) := hS27
  obtain ⟨⟨l32, l35, x38, x39⟩, hc31, hF⟩ := bind_in hF
  try dsimp only at hF
  refine gx_c (pLevels_R (l32, l35, x38, x39) w26) (pLevels_ok N l21 p1 A24 c25 _ hc31 w26 (hP30.vwB 0 rfl)) ?_
  rintro _ w40 ⟨A33, c34, A36, c37, rfl, hT42⟩
  have hS41 : St _ _ w40 [rowE .u8 26 A24 c25 l21, rowE .u8 5 A33 c34 l32, rowE .u8 26 A36 c37 l35] := hS27.take _ hT42
  refine gx_k (.tuple #[.slice A33 l32.length c34, .slice A36 l35.length c37, .int .u8 x38, .int .i64 x39]) w40 (gx_k (.slice A33 l32.length c34) w40 (gx_k (.slice A36 l35.length c37) w40 (gx_k (.int .u8 x38) w40 (gx_k (.int .i64 x39) w40 (gx_k (.slice A33 l32.length c34) w40 (gx_k (.slice A36 l35.length c37) w40 (gx_k (.int .u8 x38) w40 ?_)))))))
  refine gx_k (.int .i64 x39) w40 ?_
  refine gx_nil ?_
  refine gx_thenN ?_
  refine hK29 _ _ ?_
  refine gx_seq (fun K43 hK44 => ?_)
  refine gx_region ?_
  refine gx_k (.slice A0 p0.length c0) w40 (gx_k (.int .u8 p1) w40 ?_)
  have hP45 : St _ _ w40 ([] ++ [rowE .u8 26 A24 c25 l21, rowE .u8 5 A33 c34 l32, rowE .u8 26 A36 c37 l35]) := hS41
  obtain ⟨⟨l47, l50, x53, x54⟩, hc46, hF⟩ := bind_in hF
  try dsimp only at hF
  refine gx_c (rLevels_R (l47, l50, x53, x54) w40) (rLevels_ok N p0 p1 A0 c0 _ hc46 w40 (hP45.vwA hv0)) ?_
  rintro _ w55 ⟨A48, c49, A51, c52, rfl, hT57⟩
  have hS56 : St _ _ w55 [rowE .u8 26 A24 c25 l21, rowE .u8 5 A33 c34 l32, rowE .u8 26 A36 c37 l35, rowE .u8 5 A48 c49 l47, rowE .u8 26 A51 c52 l50] := hS41.take _ hT57
  refine gx_k (.tuple #[.slice A48 l47.length c49, .slice A51 l50.length c52, .int .u8 x53, .int .i64 x54]) w55 (gx_k (.slice A48 l47.length c49) w55 (gx_k (.slice A51 l50.length c52) w55 (gx_k (.int .u8 x53) w55 (gx_k (.int .i64 x54) w55 (gx_k (.slice A48 l47.length c49) w55 (gx_k (.slice A51 l50.length c52) w55 (gx_k (.int .u8 x53) w55 ?_)))))))
  refine gx_k (.int .i64 x54) w55 ?_
  refine gx_nil ?_
  refine gx_thenN ?_
  refine hK44 _ _ ?_
  refine gx_seq (fun K58 hK59 => ?_)
  refine gx_region ?_
  refine gx_k (.slice A33 l32.length c34) w55 (gx_k (.slice A36 l35.length c37) w55 (gx_k (.slice A48 l47.length c49) w55 (gx_k (.slice A51 l50.length c52) w55 ?_)))
  obtain ⟨c64, hE65, hO66⟩ := bind_in hF
  refine gx_part (l1 := [_, _, _, _, _, _]) (fun a w => ∃ (b63 : Bool), selfA (fun u62 => ⟨((.slice A0 p0.length c0) :: (.int .u8 p1) :: undef :: undef :: (.bool false) :: (.slice A24 l21.length c25) :: dd u62 6 2 ((.int .u8 x38) :: (.int .i64 x39) :: dd u62 10 2 ((.int .u8 x53) :: (.int .i64 x54) :: (u62 14) :: (.int .i64 ((p0.length : Nat) : Int)) :: (.bool false) :: undef :: (.slice none 0 0) :: dd u62 19 4 ((.int .u8 p1) :: dd u62 24 3 ((.int .u8 x38) :: (.int .i64 x39) :: dd u62 29 2 ((.int .u8 p1) :: dd u62 32 3 ((.int .u8 x53) :: (.int .i64 x54) :: dd u62 37 9 ((.bool b63) :: un 13 ([]))))))))).toArray, []⟩) a ∧ b63 = c64 ∧ St [] w0 w [rowE .u8 26 A24 c25 l21]) rfl ?_ ?_
  ·have hP68 : St _ _ w55 ([] ++ [rowE .u8 26 A24 c25 l21, rowE .u8 5 A33 c34 l32, rowE .u8 26 A36 c37 l35, rowE .u8 5 A48 c49 l47, rowE .u8 26 A51 c52 l50]) := hS56
   obtain ⟨b70, hc69, hE65⟩ := bind_in hE65
   try dsimp only at hE65
   refine gx_c (kSame_R b70 w55) (kSame_ok N l32 l35 l47 l50 A33 c34 A36 c37 A48 c49 A51 c52 _ hc69 w55 (hP68.vwB 1 rfl) (hP68.vwB 2 rfl) (hP68.vwB 3 rfl) (hP68.vwB 4 rfl)) ?_
   rintro _ w71 ⟨rfl, hT73⟩
   have hS72 : St _ _ w71 [rowE .u8 26 A24 c25 l21, rowE .u8 5 A33 c34 l32, rowE .u8 26 A36 c37 l35, rowE .u8 5 A48 c49 l47, rowE .u8 26 A51 c52 l50] := hS56.take _ hT73
   refine gx_k (.bool b70) w71 ?_
   cases b70 with
   | true =>
    try dsimp only at hE65
    refine gx_k (.int .u8 x38) w71 (gx_k (.int .u8 x53) w71 ?_)
    rcases if_in hE65 with ⟨h74, hE65⟩ | ⟨h74, hE65⟩
    ·refine gx_v (.bool true) w71 (run_boolE (decide_eq_true h74) (by kernel_rfl)) ?_
     refine gx_k (.bool true) w71 ?_
     refine gx_nil ?_
     refine gx_thenN ?_
     exact ⟨true, selfA_i (by kernel_rfl), (Option.some.inj hE65), (hS72.pick [0] rfl rfl)⟩
    ·refine gx_v (.bool false) w71 (run_boolE (decide_eq_false h74) (by kernel_rfl)) ?_
     refine gx_k (.bool false) w71 ?_
     refine gx_nil ?_
     refine gx_thenN ?_
     exact ⟨false, selfA_i (by kernel_rfl), (Option.some.inj hE65), (hS72.pick [0] rfl rfl)⟩
   | false =>
    try dsimp only at hE65
    refine gx_o (gx_o (gx_o (gx_k (.bool false) w71 ?_)))
    refine gx_nil ?_
    refine gx_thenN ?_
    exact ⟨false, selfA_i (by kernel_rfl), (Option.some.inj hE65), (hS72.pick [0] rfl rfl)⟩
  ·rintro _ w60 ⟨b63, hq67, rfl, hS61⟩
   obtain ⟨u62, rfl⟩ := selfA_u hq67
   try dsimp only at hO66
   obtain ⟨c79, hE80, hO81⟩ := bind_in hO66
   refine gx_part (l1 := [_, _, _, _, _]) (fun a w => ∃ (b78 : Bool), selfA (fun u77 => ⟨((.slice A0 p0.length c0) :: (.int .u8 p1) :: undef :: undef :: (.bool false) :: (.slice A24 l21.length c25) :: dd u62 6 2 ((.int .u8 x38) :: (.int .i64 x39) :: dd u62 10 2 ((.int .u8 x53) :: (.int .i64 x54) :: (u62 14) :: (.int .i64 ((p0.length : Nat) : Int)) :: (.bool false) :: undef :: (.slice none 0 0) :: dd u62 19 4 ((.int .u8 p1) :: dd u62 24 3 ((.int .u8 x38) :: (.int .i64 x39) :: dd u62 29 2 ((.int .u8 p1) :: dd u62 32 3 ((.int .u8 x53) :: (.int .i64 x54) :: dd u62 37 9 ((.bool b63) :: dd u77 47 4 ((.bool b78) :: un 8 ([])))))))))).toArray, []⟩) a ∧ b78 = c79 ∧ St [] w0 w [rowE .u8 26 A24 c25 l21]) rfl ?_ ?_
   ·refine gx_k (.bool b63) w60 ?_
    cases b63 with
    | true =>
     try dsimp only at hE80
     refine gx_k (.int .i64 x39) w60 (gx_k (.int .i64 x54) w60 ?_)
     rcases if_in hE80 with ⟨h83, hE80⟩ | ⟨h83, hE80⟩
     ·refine gx_v (.bool true) w60 (run_boolE (decide_eq_true h83) (by kernel_rfl)) ?_
      refine gx_k (.bool true) w60 ?_
      refine gx_nil ?_
      refine gx_thenN ?_
      exact ⟨true, selfA_i (by kernel_rfl), (Option.some.inj hE80), hS61⟩
     ·refine gx_v (.bool false) w60 (run_boolE (decide_eq_false h83) (by kernel_rfl)) ?_
      refine gx_k (.bool false) w60 ?_
      refine gx_nil ?_
      refine gx_thenN ?_
      exact ⟨false, selfA_i (by kernel_rfl), (Option.some.inj hE80), hS61⟩
    | false =>
     try dsimp only at hE80
     refine gx_o (gx_o (gx_o (gx_k (.bool false) w60 ?_)))
     refine gx_nil ?_
     refine gx_thenN ?_
     exact ⟨false, selfA_i (by kernel_rfl), (Option.some.inj hE80), hS61⟩
   ·rintro _ w75 ⟨b78, hq82, rfl, hS76⟩
    obtain ⟨u77, rfl⟩ := selfA_u hq82
    try dsimp only at hO81
    refine gx_k (.bool b78) w75 ?_
    cases b78 with
    | true =>
     try dsimp only at hO81
     refine gx_k (.slice A24 l21.length c25) w75 (gx_k (.slice A0 p0.length c0) w75 ?_)
     have hS84 : St _ _ w75 [rowE .u8 26 A24 c25 l21, rowE .u8 5 none 0 ([])] := hS76.nilrow .u8 5
     have hS85 : St _ _ w75 [rowE .u8 26 A24 c25 l21, rowE .u8 5 none 0 ([]), rowE .u8 5 none 0 ([])] := hS84.nilrow .u8 5
     have hP86 : St _ _ w75 ([] ++ [rowE .u8 26 A24 c25 l21, rowE .u8 5 none 0 ([]), rowE .u8 5 none 0 ([])]) := hS85
     obtain ⟨b88, hc87, hO81⟩ := bind_in hO81
     try dsimp only at hO81
     refine gx_c (kSame_R b88 w75) (kSame_ok N ([]) l21 ([]) p0 none 0 A24 c25 none 0 A0 c0 _ hc87 w75 (hP86.vwB 1 rfl) (hP86.vwB 0 rfl) (hP86.vwB 2 rfl) (hP86.vwA hv0)) ?_
     rintro _ w89 ⟨rfl, hT91⟩
     have hS90 : St _ _ w89 [rowE .u8 26 A24 c25 l21, rowE .u8 5 none 0 ([]), rowE .u8 5 none 0 ([])] := hS85.take _ hT91
     refine gx_k (.bool b88) w89 (gx_k (.bool b88) w89 ?_)
     cases b88 with
     | true =>
      try dsimp only at hO81
      have hP92 : St _ _ w89 ([] ++ [rowE .u8 26 A24 c25 l21, rowE .u8 5 none 0 ([]), rowE .u8 5 none 0 ([])]) := hS90
      obtain ⟨b94, hc93, hO81⟩ := bind_in hO81
      try dsimp only at hO81
      refine gx_c (kWorks_R b94 w89) (kWorks_ok N  _ hc93 w89 ) ?_
      rintro _ w95 ⟨rfl, hT97⟩
      have hS96 : St _ _ w95 [rowE .u8 26 A24 c25 l21, rowE .u8 5 none 0 ([]), rowE .u8 5 none 0 ([])] := hS90.take _ hT97
      refine gx_k (.bool b94) w95 (gx_k (.bool b94) w95 ?_)
      refine gx_nil ?_
      refine gx_thenN ?_
      refine hK59 _ _ ?_
      refine gx_ret ?_
      obtain rfl := Option.some.inj hO81
      exact gx_fin (.bool b94) (by kernel_rfl) (by kernel_rfl) ⟨_, rfl, rfl, (hS96.pick [] rfl rfl)⟩
     | false =>
      try dsimp only at hO81
      refine gx_o (gx_k (.bool false) w89 (gx_k (.bool false) w89 ?_))
      refine gx_nil ?_
      refine gx_thenN ?_
      refine hK59 _ _ ?_
      refine gx_ret ?_
      obtain rfl := Option.some.inj hO81
      exact gx_fin (.bool false) (by kernel_rfl) (by kernel_rfl) ⟨_, rfl, rfl, (hS90.pick [] rfl rfl)⟩
    | false =>
     try dsimp only at hO81
     refine gx_o (gx_o (gx_o (gx_k (.bool false) w75 (gx_k (.bool false) w75 (gx_o (gx_k (.bool false) w75 (gx_k (.bool false) w75 ?_)))))))
     refine gx_nil ?_
     refine gx_thenN ?_
     refine hK59 _ _ ?_
     refine gx_ret ?_
     obtain rfl := Option.some.inj hO81
     exact gx_fin (.bool false) (by kernel_rfl) (by kernel_rfl) ⟨_, rfl, rfl, (hS76.pick [] rfl rfl)⟩

end Go.Proofs.Ytapfdafmhiilkaa
