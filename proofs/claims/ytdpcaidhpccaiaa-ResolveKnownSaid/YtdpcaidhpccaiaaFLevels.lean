/-
  ResolveLevels, walked.
-/
import Derived.Test.YtdpcaidhpccaiaaF0
namespace Go.Proofs.Ytdpcaidhpccaiaa
open Go Go.RowKit
set_option linter.unusedVariables false

def fLevels (N : Nat) (p0 : List Int) (p1 : Int) : Option (Bool) :=
 (if ((p0.length : Nat) : Int) > 3000 then ((kWorks N ).bind fun b12 => some b12) else ((kOwn N p0).bind fun l20 => ((pLvl N l20 p1).bind fun l32 => ((rLvl N p0 p1).bind fun lz95_37o6_3 => ((some (((strOfNums l32).toList == (strOfNums lz95_37o6_3).toList))).bind fun b41 => (match b41 with | true => ((kIs N l20 p0).bind fun b45 => (match b45 with | true => ((kWorks N ).bind fun b51 => some b51) | false => some false)) | false => some false))))))

set_option linter.unusedVariables false in
def fLevels_R (r : Bool) (w0 : World) (v : Value) (w : World) : Prop := v = .bool r ∧ St [] w0 w []

set_option maxRecDepth 100000 in
set_option maxHeartbeats 4000000 in
theorem fLevels_ok (N : Nat) (p0 : List Int) (p1 : Int) (A0 : Option Addr) (c0 : Nat) (r : Bool) (hF : fLevels N p0 p1 = some r) (w0 : World) (hv0 : Vw [] .u8 w0 A0 c0 p0) :
  Calls Try.prog 10 #[.slice A0 p0.length c0, .int .u8 p1] w0 fun e w => ∃ v, e = .returned v ∧ fLevels_R r w0 v w := by
 have hS0 := St.start w0
 unfold fLevels at hF
 refine calls_of Try.func10 rfl ⟨((.slice A0 p0.length c0) :: (.int .u8 p1) :: un 27 ([])).toArray, []⟩ (by kernel_rfl) ?_
 refine gx_seq (fun K1 hK2 => ?_)
 refine gx_region ?_
 refine gx_k (.bool false) w0 ?_
 refine gx_nil ?_
 refine gx_thenN ?_
 refine hK2 _ _ ?_
 refine gx_seq (fun K3 hK4 => ?_)
 refine gx_seq (fun K5 hK6 => ?_)
 refine gx_region ?_
 refine gx_k (.slice A0 p0.length c0) w0 (gx_k (.int .i64 ((p0.length : Nat) : Int)) w0 ?_)
 rcases if_in hF with ⟨h7, hF⟩ | ⟨h7, hF⟩
 ·refine gx_v (.bool true) w0 (run_boolE (decide_eq_true h7) (by kernel_rfl)) ?_
  refine gx_nil ?_
  refine gx_thenN ?_
  refine hK6 _ _ ?_
  refine gx_yes (by kernel_rfl) ?_
  refine gx_seq (fun K8 hK9 => ?_)
  refine gx_region ?_
  have hP10 : St _ _ w0 ([] ++ []) := hS0
  obtain ⟨b12, hc11, hF⟩ := bind_in hF
  try dsimp only at hF
  refine gx_c (kWorks_R b12 w0) (kWorks_ok N  _ hc11 w0 ) ?_
  rintro _ w13 ⟨rfl, hT15⟩
  have hS14 : St _ _ w13 [] := hS0.take _ hT15
  refine gx_k (.bool b12) w13 ?_
  refine gx_nil ?_
  refine gx_thenN ?_
  refine hK9 _ _ ?_
  refine gx_ret ?_
  refine gx_thenR ?_
  obtain rfl := Option.some.inj hF
  exact gx_fin (.bool b12) (by kernel_rfl) (by kernel_rfl) ⟨_, rfl, rfl, hS14⟩
 ·refine gx_v (.bool false) w0 (run_boolE (decide_eq_false h7) (by kernel_rfl)) ?_
  refine gx_nil ?_
  refine gx_thenN ?_
  refine hK6 _ _ ?_
  refine gx_no (by kernel_rfl) ?_
  refine gx_pass ?_
  refine gx_thenN ?_
  refine hK4 _ _ ?_
  refine gx_seq (fun K16 hK17 => ?_)
  refine gx_region ?_
  refine gx_k (.slice A0 p0.length c0) w0 ?_
  have hP18 : St _ _ w0 ([] ++ []) := hS0
  obtain ⟨l20, hc19, hF⟩ := bind_in hF
  try dsimp only at hF
  refine gx_c (kOwn_R l20 w0) (kOwn_ok N p0 A0 c0 _ hc19 w0 (hP18.vwA hv0)) ?_
  rintro _ w23 ⟨A21, c22, rfl, hT25⟩
  have hS24 : St _ _ w23 [rowE .u8 23 A21 c22 l20] := hS0.take _ hT25
  refine gx_k (.slice A21 l20.length c22) w23 ?_
  refine gx_nil ?_
  refine gx_thenN ?_
  refine hK17 _ _ ?_
  refine gx_seq (fun K26 hK27 => ?_)
  refine gd_start (fun w => St [] w0 w [rowE .u8 23 A21 c22 l20]) 18 #[false, false, false, false, false, false, false, false, false, false, false, false, false, false, false, false, false, false] (by kernel_rfl) (by kernel_rfl) ?_
  have hS29 := hS24.drew
  generalize w23.drew = w28 at hS29 ⊢
  refine gd1 0 { dst := some 12, op := _, type := _, pos := _, after := _, guard := _ } (.slice A21 l20.length c22) rfl hS29 (fun w hSw => by kernel_rfl) ?_
  refine gd1 1 { dst := some 13, op := _, type := _, pos := _, after := _, guard := _ } (.int .u8 p1) rfl hS29 (fun w hSw => by kernel_rfl) ?_
  refine gd1 4 { dst := some 16, op := _, type := _, pos := _, after := _, guard := _ } (.slice A0 p0.length c0) rfl hS29 (fun w hSw => by kernel_rfl) ?_
  refine gd1 5 { dst := some 17, op := _, type := _, pos := _, after := _, guard := _ } (.int .u8 p1) rfl hS29 (fun w hSw => by kernel_rfl) ?_
  have hP30 : St _ _ w28 ([] ++ [rowE .u8 23 A21 c22 l20]) := hS29
  obtain ⟨l32, hc31, hF⟩ := bind_in hF
  try dsimp only at hF
  refine gdC 2 { dst := some 14, op := _, type := _, pos := _, after := _, guard := _ } (pLvl_R l32 w28) rfl (by kernel_rfl) (pLvl_ok N l20 p1 A21 c22 _ hc31 w28 (hP30.vwB 0 rfl)) ?_
  rintro _ w35 ⟨A33, c34, rfl, hT37⟩
  have hS36 : St _ _ w35 [rowE .u8 23 A21 c22 l20, rowE .u8 5 A33 c34 l32] := hS29.take _ hT37
  refine ⟨(hS36.pick [0] rfl rfl), ?_⟩
  obtain ⟨lz95_37o6_3, hcz95_37o6_2, hF⟩ := bind_in hF
  try dsimp only at hF
  refine gd_shareD (X := (Option Addr) × Nat) (fun ⟨Az95_37o6_4, cz95_37o6_5⟩ => ⟨((.slice A0 p0.length c0) :: (.int .u8 p1) :: undef :: undef :: (.bool false) :: (.slice A21 l20.length c22) :: (.slice A0 p0.length c0) :: (.int .i64 ((p0.length : Nat) : Int)) :: (.bool false) :: undef :: (.slice A0 p0.length c0) :: (.slice A21 l20.length c22) :: (.slice A21 l20.length c22) :: (.int .u8 p1) :: (.slice A33 l32.length c34) :: (.string (strOfNums l32)) :: (.slice A0 p0.length c0) :: (.int .u8 p1) :: (.slice Az95_37o6_4 lz95_37o6_3.length cz95_37o6_5) :: (.string (strOfNums lz95_37o6_3)) :: un 9 ([])).toArray, []⟩) (fun ⟨Az95_37o6_4, cz95_37o6_5⟩ w => St [] w0 w [rowE .u8 23 A21 c22 l20, rowE .u8 5 A33 c34 l32, rowE .u8 5 Az95_37o6_4 cz95_37o6_5 lz95_37o6_3]) 10 #[true, true, true, true, true, true, true, true, false, false, false, false, false, false, false, false, false, false] ?_ ?_
  ·rintro ⟨Az95_37o6_4, cz95_37o6_5⟩ w39 hS40
   have hS40 : St _ _ w39 [rowE .u8 23 A21 c22 l20, rowE .u8 5 A33 c34 l32, rowE .u8 5 Az95_37o6_4 cz95_37o6_5 lz95_37o6_3] := hS40
   show WD _ _ _ _ _ _ _ _ ⟨((.slice A0 p0.length c0) :: (.int .u8 p1) :: undef :: undef :: (.bool false) :: (.slice A21 l20.length c22) :: (.slice A0 p0.length c0) :: (.int .i64 ((p0.length : Nat) : Int)) :: (.bool false) :: undef :: (.slice A0 p0.length c0) :: (.slice A21 l20.length c22) :: (.slice A21 l20.length c22) :: (.int .u8 p1) :: (.slice A33 l32.length c34) :: (.string (strOfNums l32)) :: (.slice A0 p0.length c0) :: (.int .u8 p1) :: (.slice Az95_37o6_4 lz95_37o6_3.length cz95_37o6_5) :: (.string (strOfNums lz95_37o6_3)) :: un 9 ([])).toArray, []⟩ _
   obtain ⟨b41, h42, hF⟩ := bind_in hF
   refine gd1 8 { dst := some 20, op := _, type := _, pos := _, after := _, guard := _ } (.bool b41) rfl (hS40.pick [0] rfl rfl) (fun w hSw => run_boolE (Option.some.inj h42) (by kernel_rfl)) ?_
   refine gd1 9 { dst := some 21, op := _, type := _, pos := _, after := _, guard := _ } (.bool b41) rfl (hS40.pick [0] rfl rfl) (fun w hSw => by kernel_rfl) ?_
   cases b41 with
   | true =>
    try dsimp only at hF
    refine gd1 10 { dst := some 22, op := _, type := _, pos := _, after := _, guard := _ } (.slice A21 l20.length c22) rfl (hS40.pick [0] rfl rfl) (fun w hSw => by kernel_rfl) ?_
    refine gd1 11 { dst := some 23, op := _, type := _, pos := _, after := _, guard := _ } (.slice A0 p0.length c0) rfl (hS40.pick [0] rfl rfl) (fun w hSw => by kernel_rfl) ?_
    have hP43 : St _ _ w39 ([] ++ [rowE .u8 23 A21 c22 l20, rowE .u8 5 A33 c34 l32, rowE .u8 5 Az95_37o6_4 cz95_37o6_5 lz95_37o6_3]) := hS40
    obtain ⟨b45, hc44, hF⟩ := bind_in hF
    try dsimp only at hF
    refine gdC 12 { dst := some 24, op := _, type := _, pos := _, after := _, guard := _ } (kIs_R b45 w39) rfl (by kernel_rfl) (kIs_ok N l20 p0 A21 c22 A0 c0 _ hc44 w39 (hP43.vwB 0 rfl) (hP43.vwA hv0)) ?_
    rintro _ w46 ⟨rfl, hT48⟩
    have hS47 : St _ _ w46 [rowE .u8 23 A21 c22 l20, rowE .u8 5 A33 c34 l32, rowE .u8 5 Az95_37o6_4 cz95_37o6_5 lz95_37o6_3] := hS40.take _ hT48
    refine ⟨(hS47.pick [0] rfl rfl), ?_⟩
    refine gd1 13 { dst := some 25, op := _, type := _, pos := _, after := _, guard := _ } (.bool b45) rfl (hS47.pick [0] rfl rfl) (fun w hSw => by kernel_rfl) ?_
    refine gd1 14 { dst := some 26, op := _, type := _, pos := _, after := _, guard := _ } (.bool b45) rfl (hS47.pick [0] rfl rfl) (fun w hSw => by kernel_rfl) ?_
    cases b45 with
    | true =>
     try dsimp only at hF
     have hP49 : St _ _ w46 ([] ++ [rowE .u8 23 A21 c22 l20, rowE .u8 5 A33 c34 l32, rowE .u8 5 Az95_37o6_4 cz95_37o6_5 lz95_37o6_3]) := hS47
     obtain ⟨b51, hc50, hF⟩ := bind_in hF
     try dsimp only at hF
     refine gdC 15 { dst := some 27, op := _, type := _, pos := _, after := _, guard := _ } (kWorks_R b51 w46) rfl (by kernel_rfl) (kWorks_ok N  _ hc50 w46 ) ?_
     rintro _ w52 ⟨rfl, hT54⟩
     have hS53 : St _ _ w52 [rowE .u8 23 A21 c22 l20, rowE .u8 5 A33 c34 l32, rowE .u8 5 Az95_37o6_4 cz95_37o6_5 lz95_37o6_3] := hS47.take _ hT54
     refine ⟨(hS53.pick [0] rfl rfl), ?_⟩
     refine gd1 16 { dst := some 28, op := _, type := _, pos := _, after := _, guard := _ } (.bool b51) rfl (hS53.pick [0] rfl rfl) (fun w hSw => by kernel_rfl) ?_
     refine gd1 17 { dst := some 4, op := _, type := _, pos := _, after := _, guard := _ } (.bool b51) rfl (hS53.pick [0] rfl rfl) (fun w hSw => by kernel_rfl) ?_
     refine gd_done (by kernel_rfl) ?_
     refine gx_thenN ?_
     refine hK27 _ _ ?_
     refine gx_ret ?_
     obtain rfl := Option.some.inj hF
     exact gx_fin (.bool b51) (by kernel_rfl) (by kernel_rfl) ⟨_, rfl, rfl, (hS53.pick [] rfl rfl)⟩
    | false =>
     try dsimp only at hF
     refine gd0 15 { dst := some 27, op := _, type := _, pos := _, after := _, guard := _ } rfl (hS47.pick [0] rfl rfl) ?_
     refine gd1 16 { dst := some 28, op := _, type := _, pos := _, after := _, guard := _ } (.bool false) rfl (hS47.pick [0] rfl rfl) (fun w hSw => by kernel_rfl) ?_
     refine gd1 17 { dst := some 4, op := _, type := _, pos := _, after := _, guard := _ } (.bool false) rfl (hS47.pick [0] rfl rfl) (fun w hSw => by kernel_rfl) ?_
     refine gd_done (by kernel_rfl) ?_
     refine gx_thenN ?_
     refine hK27 _ _ ?_
     refine gx_ret ?_
     obtain rfl := Option.some.inj hF
     exact gx_fin (.bool false) (by kernel_rfl) (by kernel_rfl) ⟨_, rfl, rfl, (hS47.pick [] rfl rfl)⟩
   | false =>
    try dsimp only at hF
    refine gd0 10 { dst := some 22, op := _, type := _, pos := _, after := _, guard := _ } rfl (hS40.pick [0] rfl rfl) ?_
    refine gd0 11 { dst := some 23, op := _, type := _, pos := _, after := _, guard := _ } rfl (hS40.pick [0] rfl rfl) ?_
    refine gd0 12 { dst := some 24, op := _, type := _, pos := _, after := _, guard := _ } rfl (hS40.pick [0] rfl rfl) ?_
    refine gd1 13 { dst := some 25, op := _, type := _, pos := _, after := _, guard := _ } (.bool false) rfl (hS40.pick [0] rfl rfl) (fun w hSw => by kernel_rfl) ?_
    refine gd1 14 { dst := some 26, op := _, type := _, pos := _, after := _, guard := _ } (.bool false) rfl (hS40.pick [0] rfl rfl) (fun w hSw => by kernel_rfl) ?_
    refine gd0 15 { dst := some 27, op := _, type := _, pos := _, after := _, guard := _ } rfl (hS40.pick [0] rfl rfl) ?_
    refine gd1 16 { dst := some 28, op := _, type := _, pos := _, after := _, guard := _ } (.bool false) rfl (hS40.pick [0] rfl rfl) (fun w hSw => by kernel_rfl) ?_
    refine gd1 17 { dst := some 4, op := _, type := _, pos := _, after := _, guard := _ } (.bool false) rfl (hS40.pick [0] rfl rfl) (fun w hSw => by kernel_rfl) ?_
    refine gd_done (by kernel_rfl) ?_
    refine gx_thenN ?_
    refine hK27 _ _ ?_
    refine gx_ret ?_
    obtain rfl := Option.some.inj hF
    exact gx_fin (.bool false) (by kernel_rfl) (by kernel_rfl) ⟨_, rfl, rfl, (hS40.pick [] rfl rfl)⟩
  ·intro K55
   refine gd_fork2 3 6 { dst := some 15, op := _, type := _, pos := _, after := _, guard := _ } { dst := some 18, op := _, type := _, pos := _, after := _, guard := _ } rfl rfl ?_ ?_
   ·refine gfR 3 { dst := some 15, op := _, type := _, pos := _, after := _, guard := _ } (R := fun v w => v = .string (strOfNums l32) ∧ w35 = w) rfl ⟨_, _, run_conv rfl (by kernel_rfl) (conv_b _ _ _ (hS36.row 1 rfl).1), rfl, rfl⟩ ?_
    rintro _ _ ⟨rfl, rfl⟩
    refine ⟨(hS36.pick [0] rfl rfl), ?_⟩
    have hPz95_37o6_1 : St _ _ w35 ([] ++ [rowE .u8 23 A21 c22 l20, rowE .u8 5 A33 c34 l32]) := hS36
    refine gdC 6 { dst := some 18, op := _, type := _, pos := _, after := _, guard := _ } (rLvl_R lz95_37o6_3 w35) rfl (by kernel_rfl) (rLvl_ok N p0 p1 A0 c0 _ hcz95_37o6_2 w35 (hPz95_37o6_1.vwA hv0)) ?_
    rintro _ wz95_37o6_6 ⟨Az95_37o6_4, cz95_37o6_5, rfl, hTz95_37o6_8⟩
    have hSz95_37o6_7 : St _ _ wz95_37o6_6 [rowE .u8 23 A21 c22 l20, rowE .u8 5 A33 c34 l32, rowE .u8 5 Az95_37o6_4 cz95_37o6_5 lz95_37o6_3] := hS36.take _ hTz95_37o6_8
    refine ⟨(hSz95_37o6_7.pick [0] rfl rfl), ?_⟩
    refine gdR 7 { dst := some 19, op := _, type := _, pos := _, after := _, guard := _ } (R := fun v w => v = .string (strOfNums lz95_37o6_3) ∧ wz95_37o6_6 = w) rfl ⟨_, _, run_conv rfl (by kernel_rfl) (conv_b _ _ _ (hSz95_37o6_7.row 2 rfl).1), rfl, rfl⟩ ?_
    rintro _ _ ⟨rfl, rfl⟩
    refine ⟨(hSz95_37o6_7.pick [0] rfl rfl), ?_⟩
    exact gd_meetD (by kernel_rfl) (by kernel_rfl) (K55 (Az95_37o6_4, cz95_37o6_5) _ hSz95_37o6_7)
   ·have hPz95_37o6_1 : St _ _ w35 ([] ++ [rowE .u8 23 A21 c22 l20, rowE .u8 5 A33 c34 l32]) := hS36
    refine gfC 6 { dst := some 18, op := _, type := _, pos := _, after := _, guard := _ } (rLvl_R lz95_37o6_3 w35) rfl (by kernel_rfl) (rLvl_ok N p0 p1 A0 c0 _ hcz95_37o6_2 w35 (hPz95_37o6_1.vwA hv0)) ?_
    rintro _ wz95_37o6_6 ⟨Az95_37o6_4, cz95_37o6_5, rfl, hTz95_37o6_8⟩
    have hSz95_37o6_7 : St _ _ wz95_37o6_6 [rowE .u8 23 A21 c22 l20, rowE .u8 5 A33 c34 l32, rowE .u8 5 Az95_37o6_4 cz95_37o6_5 lz95_37o6_3] := hS36.take _ hTz95_37o6_8
    refine ⟨(hSz95_37o6_7.pick [0] rfl rfl), ?_⟩
    refine gd_fork2 3 7 { dst := some 15, op := _, type := _, pos := _, after := _, guard := _ } { dst := some 19, op := _, type := _, pos := _, after := _, guard := _ } rfl rfl ?_ ?_
    ·refine gfR 3 { dst := some 15, op := _, type := _, pos := _, after := _, guard := _ } (R := fun v w => v = .string (strOfNums l32) ∧ wz95_37o6_6 = w) rfl ⟨_, _, run_conv rfl (by kernel_rfl) (conv_b _ _ _ (hSz95_37o6_7.row 1 rfl).1), rfl, rfl⟩ ?_
     rintro _ _ ⟨rfl, rfl⟩
     refine ⟨(hSz95_37o6_7.pick [0] rfl rfl), ?_⟩
     refine gdR 7 { dst := some 19, op := _, type := _, pos := _, after := _, guard := _ } (R := fun v w => v = .string (strOfNums lz95_37o6_3) ∧ wz95_37o6_6 = w) rfl ⟨_, _, run_conv rfl (by kernel_rfl) (conv_b _ _ _ (hSz95_37o6_7.row 2 rfl).1), rfl, rfl⟩ ?_
     rintro _ _ ⟨rfl, rfl⟩
     refine ⟨(hSz95_37o6_7.pick [0] rfl rfl), ?_⟩
     exact gd_meetD (by kernel_rfl) (by kernel_rfl) (K55 (Az95_37o6_4, cz95_37o6_5) _ hSz95_37o6_7)
    ·refine gfR 7 { dst := some 19, op := _, type := _, pos := _, after := _, guard := _ } (R := fun v w => v = .string (strOfNums lz95_37o6_3) ∧ wz95_37o6_6 = w) rfl ⟨_, _, run_conv rfl (by kernel_rfl) (conv_b _ _ _ (hSz95_37o6_7.row 2 rfl).1), rfl, rfl⟩ ?_
     rintro _ _ ⟨rfl, rfl⟩
     refine ⟨(hSz95_37o6_7.pick [0] rfl rfl), ?_⟩
     refine gdR 3 { dst := some 15, op := _, type := _, pos := _, after := _, guard := _ } (R := fun v w => v = .string (strOfNums l32) ∧ wz95_37o6_6 = w) rfl ⟨_, _, run_conv rfl (by kernel_rfl) (conv_b _ _ _ (hSz95_37o6_7.row 1 rfl).1), rfl, rfl⟩ ?_
     rintro _ _ ⟨rfl, rfl⟩
     refine ⟨(hSz95_37o6_7.pick [0] rfl rfl), ?_⟩
     exact gd_meetD (by kernel_rfl) (by kernel_rfl) (K55 (Az95_37o6_4, cz95_37o6_5) _ hSz95_37o6_7)

end Go.Proofs.Ytdpcaidhpccaiaa
