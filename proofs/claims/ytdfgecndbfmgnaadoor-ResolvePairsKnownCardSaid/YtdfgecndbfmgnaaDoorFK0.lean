/-
  More statements, walked.
-/
import Derived.Test.YtdfgecndbfmgnaaDoorFBr
namespace Go.Proofs.YtdfgecndbfmgnaaDoor
open Go Go.RowKit
set_option linter.unusedVariables false

def fPairs (N : Nat) (p0 : List Int) (p1 : List Int) (p2 : List Int) (p3 : Int) (p4 : Int) : Option (Bool) :=
 (((if ((p0.length : Nat) : Int) > 800 then ((kAround N ).bind fun b16 => some (Ctl.ret b16)) else (if ((p1.length : Nat) : Int) > 800 then ((kAround N ).bind fun b25 => some (Ctl.ret b25)) else (if ((p2.length : Nat) : Int) > 800 then ((kAround N ).bind fun b34 => some (Ctl.ret b34)) else some (Ctl.go ())))) : Option (Ctl (Unit) (Bool))).bind fun | Ctl.go () => ((apx ([]) p1).bind fun l43 => ((apx ([]) p2).bind fun l53 => ((pPairs N p0 l43 l53 p3 p4).bind fun (l64, x67) => ((rPairs N p0 p1 p2 p3 p4).bind fun (l75, x78) => ((((kIs N l64 l75).bind fun b94 => (match b94 with | true => (if x67 = x78 then some (true) else some (false)) | false => some (false))) : Option (Bool)).bind fun b87 => (((match b87 with | true => ((kIs N l43 p1).bind fun b109 => some (b109)) | false => some (false)) : Option (Bool)).bind fun b102 => (match b102 with | true => ((kIs N l53 p2).bind fun b115 => (match b115 with | true => ((kAround N ).bind fun b121 => some b121) | false => some false)) | false => some false))))))) | Ctl.ret r => some r)

set_option linter.unusedVariables false in
def fPairs_R (r : Bool) (w0 : World) (v : Value) (w : World) : Prop := v = .bool r ∧ St [] w0 w []

set_option maxRecDepth 100000 in
set_option maxHeartbeats 4000000 in
theorem fPairs_ok (N : Nat) (p0 : List Int) (p1 : List Int) (p2 : List Int) (p3 : Int) (p4 : Int) (A0 : Option Addr) (c0 : Nat) (A1 : Option Addr) (c1 : Nat) (A2 : Option Addr) (c2 : Nat) (r : Bool) (hF : fPairs N p0 p1 p2 p3 p4 = some r) (w0 : World) (hv0 : Vw [] .i32 w0 A0 c0 p0) (hv1 : Vw [] .u8 w0 A1 c1 p1) (hv2 : Vw [] .u8 w0 A2 c2 p2) (hcd : MirW w0) :
  Calls Tryd.prog 10 #[.slice A0 p0.length c0, .slice A1 p1.length c1, .slice A2 p2.length c2, .int .u8 p3, .int .u8 p4] w0 fun e w => ∃ v, e = .returned v ∧ fPairs_R r w0 v w := by
 have hS0 := St.start w0
 unfold fPairs at hF
 refine calls_of Tryd.func10 rfl ⟨((.slice A0 p0.length c0) :: (.slice A1 p1.length c1) :: (.slice A2 p2.length c2) :: (.int .u8 p3) :: (.int .u8 p4) :: un 71 ([])).toArray, []⟩ (by kernel_rfl) ?_
 refine gx_seq (fun K1 hK2 => ?_)
 refine gx_region ?_
 refine gx_k (.bool false) w0 ?_
 refine gx_nil ?_
 refine gx_thenN ?_
 refine hK2 _ _ ?_
 obtain ⟨c6, hE7, hO8⟩ := bind_in hF
 refine gx_cut (fun a w => selfA (fun u5 => ⟨((.slice A0 p0.length c0) :: (.slice A1 p1.length c1) :: (.slice A2 p2.length c2) :: (.int .u8 p3) :: (.int .u8 p4) :: un 5 ((u5 10) :: un 6 (dd u5 17 14 (un 45 ([]))))).toArray, []⟩) a ∧ Ctl.go () = c6 ∧ St [] w0 w []) ?_ ?_
 ·refine gx_seq (fun K9 hK10 => ?_)
  refine gx_region ?_
  refine gx_k (.slice A0 p0.length c0) w0 (gx_k (.int .i64 ((p0.length : Nat) : Int)) w0 ?_)
  rcases if_in hE7 with ⟨h11, hE7⟩ | ⟨h11, hE7⟩
  ·refine gx_v (.bool true) w0 (run_boolE (decide_eq_true h11) (by kernel_rfl)) ?_
   refine gx_k (.bool true) w0 (gx_o (gx_o (gx_o (gx_k (.bool true) w0 (gx_k (.bool true) w0 (gx_o (gx_o ?_)))))))
   refine gx_o (gx_k (.bool true) w0 ?_)
   refine gx_nil ?_
   refine gx_thenN ?_
   refine hK10 _ _ ?_
   refine gx_yes (by kernel_rfl) ?_
   refine gx_seq (fun K12 hK13 => ?_)
   refine gx_region ?_
   have hP14 : St _ _ w0 ([] ++ []) := hS0
   obtain ⟨b16, hc15, hE7⟩ := bind_in hE7
   try dsimp only at hE7
   refine gx_c (kAround_R b16 w0) (kAround_ok N  _ hc15 w0 (MirW.at hcd hS0.below)) ?_
   rintro _ w17 ⟨rfl, hT19⟩
   have hS18 : St _ _ w17 [] := hS0.take _ hT19
   refine gx_k (.bool b16) w17 ?_
   refine gx_nil ?_
   refine gx_thenN ?_
   refine hK13 _ _ ?_
   refine gx_ret ?_
   refine gx_thenR ?_
   obtain rfl := Option.some.inj hE7
   try dsimp only at hO8
   obtain rfl := Option.some.inj hO8
   exact gx_fin (.bool b16) (by kernel_rfl) (by kernel_rfl) ⟨_, rfl, rfl, hS18⟩
  ·refine gx_v (.bool false) w0 (run_boolE (decide_eq_false h11) (by kernel_rfl)) ?_
   refine gx_k (.bool false) w0 (gx_k (.slice A1 p1.length c1) w0 (gx_k (.int .i64 ((p1.length : Nat) : Int)) w0 ?_))
   rcases if_in hE7 with ⟨h20, hE7⟩ | ⟨h20, hE7⟩
   ·refine gx_v (.bool true) w0 (run_boolE (decide_eq_true h20) (by kernel_rfl)) ?_
    refine gx_k (.bool true) w0 (gx_k (.bool true) w0 (gx_o (gx_o (gx_o (gx_k (.bool true) w0 ?_)))))
    refine gx_nil ?_
    refine gx_thenN ?_
    refine hK10 _ _ ?_
    refine gx_yes (by kernel_rfl) ?_
    refine gx_seq (fun K21 hK22 => ?_)
    refine gx_region ?_
    have hP23 : St _ _ w0 ([] ++ []) := hS0
    obtain ⟨b25, hc24, hE7⟩ := bind_in hE7
    try dsimp only at hE7
    refine gx_c (kAround_R b25 w0) (kAround_ok N  _ hc24 w0 (MirW.at hcd hS0.below)) ?_
    rintro _ w26 ⟨rfl, hT28⟩
    have hS27 : St _ _ w26 [] := hS0.take _ hT28
    refine gx_k (.bool b25) w26 ?_
    refine gx_nil ?_
    refine gx_thenN ?_
    refine hK22 _ _ ?_
    refine gx_ret ?_
    refine gx_thenR ?_
    obtain rfl := Option.some.inj hE7
    try dsimp only at hO8
    obtain rfl := Option.some.inj hO8
    exact gx_fin (.bool b25) (by kernel_rfl) (by kernel_rfl) ⟨_, rfl, rfl, hS27⟩
   ·refine gx_v (.bool false) w0 (run_boolE (decide_eq_false h20) (by kernel_rfl)) ?_
    refine gx_k (.bool false) w0 (gx_k (.bool false) w0 (gx_k (.slice A2 p2.length c2) w0 (gx_k (.int .i64 ((p2.length : Nat) : Int)) w0 ?_)))
    rcases if_in hE7 with ⟨h29, hE7⟩ | ⟨h29, hE7⟩
    ·refine gx_v (.bool true) w0 (run_boolE (decide_eq_true h29) (by kernel_rfl)) ?_
     refine gx_k (.bool true) w0 ?_
     refine gx_nil ?_
     refine gx_thenN ?_
     refine hK10 _ _ ?_
     refine gx_yes (by kernel_rfl) ?_
     refine gx_seq (fun K30 hK31 => ?_)
     refine gx_region ?_
     have hP32 : St _ _ w0 ([] ++ []) := hS0
     obtain ⟨b34, hc33, hE7⟩ := bind_in hE7
     try dsimp only at hE7
     refine gx_c (kAround_R b34 w0) (kAround_ok N  _ hc33 w0 (MirW.at hcd hS0.below)) ?_
     rintro _ w35 ⟨rfl, hT37⟩
     have hS36 : St _ _ w35 [] := hS0.take _ hT37
     refine gx_k (.bool b34) w35 ?_
     refine gx_nil ?_
     refine gx_thenN ?_
     refine hK31 _ _ ?_
     refine gx_ret ?_
     refine gx_thenR ?_
     obtain rfl := Option.some.inj hE7
     try dsimp only at hO8
     obtain rfl := Option.some.inj hO8
     exact gx_fin (.bool b34) (by kernel_rfl) (by kernel_rfl) ⟨_, rfl, rfl, hS36⟩
    ·refine gx_v (.bool false) w0 (run_boolE (decide_eq_false h29) (by kernel_rfl)) ?_
     refine gx_k (.bool false) w0 ?_
     refine gx_nil ?_
     refine gx_thenN ?_
     refine hK10 _ _ ?_
     refine gx_no (by kernel_rfl) ?_
     refine gx_pass ?_
     refine gx_thenN ?_
     exact ⟨selfA_i (by kernel_rfl), (Option.some.inj hE7), hS0⟩
 ·rintro _ w3 ⟨hq125, rfl, hS4⟩
  obtain ⟨u5, rfl⟩ := selfA_u hq125
  try dsimp only at hO8
  refine gx_seq (fun K38 hK39 => ?_)
  refine gx_region ?_
  refine gx_k (.slice none 0 0) w3 (gx_k (.slice none 0 0) w3 ?_)
  refine gx_nil ?_
  refine gx_thenN ?_
  refine hK39 _ _ ?_
  refine gx_seq (fun K40 hK41 => ?_)
  refine gx_region ?_
  refine gx_k (.slice none 0 0) w3 (gx_k (.slice A1 p1.length c1) w3 ?_)
  have hS42 : St _ _ w3 [rowE .u8 33 none 0 ([])] := hS4.nilrow .u8 33
  obtain ⟨l43, ha44, hO8⟩ := bind_in hO8
  obtain ⟨ha44, hq45⟩ := apx_in ha44
  refine gx_r (st_append rfl (by kernel_rfl) (by kernel_rfl) hS42 0 rfl (hS42.view hv1) hv1.nn ha44 (by kernel_rfl) (by kernel_rfl)) ?_
  rintro _ w48 ⟨A46, c47, rfl, hS49⟩
  rw [← hq45] at hS49 ⊢
  have hS49 : St _ _ w48 [rowE .u8 33 A46 c47 l43] := hS49
  refine gx_k (.slice A46 l43.length c47) w48 ?_
  refine gx_nil ?_
  refine gx_thenN ?_
  refine hK41 _ _ ?_
  refine gx_seq (fun K50 hK51 => ?_)
  refine gx_region ?_
  refine gx_k (.slice none 0 0) w48 (gx_k (.slice A2 p2.length c2) w48 ?_)
  have hS52 : St _ _ w48 [rowE .u8 33 A46 c47 l43, rowE .u8 33 none 0 ([])] := hS49.nilrow .u8 33
  obtain ⟨l53, ha54, hO8⟩ := bind_in hO8
  obtain ⟨ha54, hq55⟩ := apx_in ha54
  refine gx_r (st_append rfl (by kernel_rfl) (by kernel_rfl) hS52 1 rfl (hS52.view hv2) hv2.nn ha54 (by kernel_rfl) (by kernel_rfl)) ?_
  rintro _ w58 ⟨A56, c57, rfl, hS59⟩
  rw [← hq55] at hS59 ⊢
  have hS59 : St _ _ w58 [rowE .u8 33 A46 c47 l43, rowE .u8 33 A56 c57 l53] := hS59
  refine gx_k (.slice A56 l53.length c57) w58 ?_
  refine gx_nil ?_
  refine gx_thenN ?_
  refine hK51 _ _ ?_
  refine gx_seq (fun K60 hK61 => ?_)
  refine gx_region ?_
  refine gx_k (.slice A0 p0.length c0) w58 (gx_k (.slice A46 l43.length c47) w58 (gx_k (.slice A56 l53.length c57) w58 (gx_k (.int .u8 p3) w58 (gx_k (.int .u8 p4) w58 ?_))))
  have hP62 : St _ _ w58 ([] ++ [rowE .u8 33 A46 c47 l43, rowE .u8 33 A56 c57 l53]) := hS59
  obtain ⟨⟨l64, x67⟩, hc63, hO8⟩ := bind_in hO8
  try dsimp only at hO8
  refine gx_c (pPairs_R (l64, x67) w58) (pPairs_ok N p0 l43 l53 p3 p4 A0 c0 A46 c47 A56 c57 _ hc63 w58 (hP62.vwA hv0) (hP62.vwB 0 rfl) (hP62.vwB 1 rfl) (MirW.at hcd hS59.below)) ?_
  rintro _ w68 ⟨A65, c66, rfl, hT70⟩
  have hS69 : St _ _ w68 [rowE .u8 33 A46 c47 l43, rowE .u8 33 A56 c57 l53, rowE .u8 33 A65 c66 l64] := hS59.take _ hT70
  refine gx_k (.tuple #[.slice A65 l64.length c66, .int .i64 x67]) w68 (gx_k (.slice A65 l64.length c66) w68 (gx_k (.int .i64 x67) w68 (gx_k (.slice A65 l64.length c66) w68 (gx_k (.int .i64 x67) w68 ?_))))
  refine gx_nil ?_
  refine gx_thenN ?_
  refine hK61 _ _ ?_
  refine gx_seq (fun K71 hK72 => ?_)
  refine gx_region ?_
  refine gx_k (.slice A0 p0.length c0) w68 (gx_k (.slice A1 p1.length c1) w68 (gx_k (.slice A2 p2.length c2) w68 (gx_k (.int .u8 p3) w68 (gx_k (.int .u8 p4) w68 ?_))))
  have hP73 : St _ _ w68 ([] ++ [rowE .u8 33 A46 c47 l43, rowE .u8 33 A56 c57 l53, rowE .u8 33 A65 c66 l64]) := hS69
  obtain ⟨⟨l75, x78⟩, hc74, hO8⟩ := bind_in hO8
  try dsimp only at hO8
  refine gx_c (rPairs_R (l75, x78) w68) (rPairs_ok N p0 p1 p2 p3 p4 A0 c0 A1 c1 A2 c2 _ hc74 w68 (hP73.vwA hv0) (hP73.vwA hv1) (hP73.vwA hv2)) ?_
  rintro _ w79 ⟨A76, c77, rfl, hT81⟩
  have hS80 : St _ _ w79 [rowE .u8 33 A46 c47 l43, rowE .u8 33 A56 c57 l53, rowE .u8 33 A65 c66 l64, rowE .u8 33 A76 c77 l75] := hS69.take _ hT81
  refine gx_k (.tuple #[.slice A76 l75.length c77, .int .i64 x78]) w79 (gx_k (.slice A76 l75.length c77) w79 (gx_k (.int .i64 x78) w79 (gx_k (.slice A76 l75.length c77) w79 (gx_k (.int .i64 x78) w79 ?_))))
  refine gx_nil ?_
  refine gx_thenN ?_
  refine hK72 _ _ ?_
  refine gx_seq (fun K82 hK83 => ?_)
  refine gx_region ?_
  refine gx_k (.slice A65 l64.length c66) w79 (gx_k (.slice A76 l75.length c77) w79 ?_)
  obtain ⟨c88, hE89, hO90⟩ := bind_in hO8
  refine gx_part (l1 := [_, _, _, _, _, _]) (fun a w => ∃ (b87 : Bool), selfA (fun u86 => ⟨((u86 0) :: (.slice A1 p1.length c1) :: (.slice A2 p2.length c2) :: (.int .u8 p3) :: (.int .u8 p4) :: un 5 ((u5 10) :: (.slice A46 l43.length c47) :: (.slice A56 l53.length c57) :: (u86 13) :: (.int .i64 x67) :: (u86 15) :: (.int .i64 x78) :: dd u5 17 14 ((.slice none 0 0) :: dd u86 32 2 ((.slice none 0 0) :: dd u86 35 6 ((.int .u8 p3) :: (.int .u8 p4) :: dd u86 43 2 ((.int .i64 x67) :: dd u86 46 4 ((.int .u8 p3) :: (.int .u8 p4) :: dd u86 52 2 ((.int .i64 x78) :: dd u86 55 7 ((.bool b87) :: un 13 ([])))))))))).toArray, []⟩) a ∧ b87 = c88 ∧ St [] w0 w [rowE .u8 33 A46 c47 l43, rowE .u8 33 A56 c57 l53]) rfl ?_ ?_
  ·have hP92 : St _ _ w79 ([] ++ [rowE .u8 33 A46 c47 l43, rowE .u8 33 A56 c57 l53, rowE .u8 33 A65 c66 l64, rowE .u8 33 A76 c77 l75]) := hS80
   obtain ⟨b94, hc93, hE89⟩ := bind_in hE89
   try dsimp only at hE89
   refine gx_c (kIs_R b94 w79) (kIs_ok N l64 l75 A65 c66 A76 c77 _ hc93 w79 (hP92.vwB 2 rfl) (hP92.vwB 3 rfl)) ?_
   rintro _ w95 ⟨rfl, hT97⟩
   have hS96 : St _ _ w95 [rowE .u8 33 A46 c47 l43, rowE .u8 33 A56 c57 l53, rowE .u8 33 A65 c66 l64, rowE .u8 33 A76 c77 l75] := hS80.take _ hT97
   refine gx_k (.bool b94) w95 ?_
   cases b94 with
   | true =>
    try dsimp only at hE89
    refine gx_k (.int .i64 x67) w95 (gx_k (.int .i64 x78) w95 ?_)
    rcases if_in hE89 with ⟨h98, hE89⟩ | ⟨h98, hE89⟩
    ·refine gx_v (.bool true) w95 (run_boolE (decide_eq_true h98) (by kernel_rfl)) ?_
     refine gx_k (.bool true) w95 ?_
     refine gx_nil ?_
     refine gx_thenN ?_
     exact ⟨true, selfA_i (by kernel_rfl), (Option.some.inj hE89), (hS96.pick [0, 1] rfl rfl)⟩
    ·refine gx_v (.bool false) w95 (run_boolE (decide_eq_false h98) (by kernel_rfl)) ?_
     refine gx_k (.bool false) w95 ?_
     refine gx_nil ?_
     refine gx_thenN ?_
     exact ⟨false, selfA_i (by kernel_rfl), (Option.some.inj hE89), (hS96.pick [0, 1] rfl rfl)⟩
   | false =>
    try dsimp only at hE89
    refine gx_o (gx_o (gx_o (gx_k (.bool false) w95 ?_)))
    refine gx_nil ?_
    refine gx_thenN ?_
    exact ⟨false, selfA_i (by kernel_rfl), (Option.some.inj hE89), (hS96.pick [0, 1] rfl rfl)⟩
  ·rintro _ w84 ⟨b87, hq91, rfl, hS85⟩
   obtain ⟨u86, rfl⟩ := selfA_u hq91
   try dsimp only at hO90
   obtain ⟨c103, hE104, hO105⟩ := bind_in hO90
   refine gx_part (l1 := [_, _, _, _, _]) (fun a w => ∃ (b102 : Bool), selfA (fun u101 => ⟨((u86 0) :: (u101 1) :: (.slice A2 p2.length c2) :: (.int .u8 p3) :: (.int .u8 p4) :: un 5 ((u5 10) :: (u101 11) :: (.slice A56 l53.length c57) :: (u86 13) :: (.int .i64 x67) :: (u86 15) :: (.int .i64 x78) :: dd u5 17 14 ((.slice none 0 0) :: dd u86 32 2 ((.slice none 0 0) :: dd u86 35 6 ((.int .u8 p3) :: (.int .u8 p4) :: dd u86 43 2 ((.int .i64 x67) :: dd u86 46 4 ((.int .u8 p3) :: (.int .u8 p4) :: dd u86 52 2 ((.int .i64 x78) :: dd u86 55 7 ((.bool b87) :: dd u101 63 4 ((.bool b102) :: un 8 ([]))))))))))).toArray, []⟩) a ∧ b102 = c103 ∧ St [] w0 w [rowE .u8 33 A56 c57 l53]) rfl ?_ ?_
   ·refine gx_k (.bool b87) w84 ?_
    cases b87 with
    | true =>
     try dsimp only at hE104
     refine gx_k (.slice A46 l43.length c47) w84 (gx_k (.slice A1 p1.length c1) w84 ?_)
     have hP107 : St _ _ w84 ([] ++ [rowE .u8 33 A46 c47 l43, rowE .u8 33 A56 c57 l53]) := hS85
     obtain ⟨b109, hc108, hE104⟩ := bind_in hE104
     try dsimp only at hE104
     refine gx_c (kIs_R b109 w84) (kIs_ok N l43 p1 A46 c47 A1 c1 _ hc108 w84 (hP107.vwB 0 rfl) (hP107.vwA hv1)) ?_
     rintro _ w110 ⟨rfl, hT112⟩
     have hS111 : St _ _ w110 [rowE .u8 33 A46 c47 l43, rowE .u8 33 A56 c57 l53] := hS85.take _ hT112
     refine gx_k (.bool b109) w110 ?_
     refine gx_nil ?_
     refine gx_thenN ?_
     exact ⟨b109, selfA_i (by kernel_rfl), (Option.some.inj hE104), (hS111.pick [1] rfl rfl)⟩
    | false =>
     try dsimp only at hE104
     refine gx_o (gx_o (gx_o (gx_k (.bool false) w84 ?_)))
     refine gx_nil ?_
     refine gx_thenN ?_
     exact ⟨false, selfA_i (by kernel_rfl), (Option.some.inj hE104), (hS85.pick [1] rfl rfl)⟩
   ·rintro _ w99 ⟨b102, hq106, rfl, hS100⟩
    obtain ⟨u101, rfl⟩ := selfA_u hq106
    try dsimp only at hO105
    refine gx_k (.bool b102) w99 ?_
    cases b102 with
    | true =>
     try dsimp only at hO105
     refine gx_k (.slice A56 l53.length c57) w99 (gx_k (.slice A2 p2.length c2) w99 ?_)
     have hP113 : St _ _ w99 ([] ++ [rowE .u8 33 A56 c57 l53]) := hS100
     obtain ⟨b115, hc114, hO105⟩ := bind_in hO105
     try dsimp only at hO105
     refine gx_c (kIs_R b115 w99) (kIs_ok N l53 p2 A56 c57 A2 c2 _ hc114 w99 (hP113.vwB 0 rfl) (hP113.vwA hv2)) ?_
     rintro _ w116 ⟨rfl, hT118⟩
     have hS117 : St _ _ w116 [rowE .u8 33 A56 c57 l53] := hS100.take _ hT118
     refine gx_k (.bool b115) w116 (gx_k (.bool b115) w116 ?_)
     cases b115 with
     | true =>
      try dsimp only at hO105
      have hP119 : St _ _ w116 ([] ++ [rowE .u8 33 A56 c57 l53]) := hS117
      obtain ⟨b121, hc120, hO105⟩ := bind_in hO105
      try dsimp only at hO105
      refine gx_c (kAround_R b121 w116) (kAround_ok N  _ hc120 w116 (MirW.at hcd hS117.below)) ?_
      rintro _ w122 ⟨rfl, hT124⟩
      have hS123 : St _ _ w122 [rowE .u8 33 A56 c57 l53] := hS117.take _ hT124
      refine gx_k (.bool b121) w122 (gx_k (.bool b121) w122 ?_)
      refine gx_nil ?_
      refine gx_thenN ?_
      refine hK83 _ _ ?_
      refine gx_ret ?_
      obtain rfl := Option.some.inj hO105
      exact gx_fin (.bool b121) (by kernel_rfl) (by kernel_rfl) ⟨_, rfl, rfl, (hS123.pick [] rfl rfl)⟩
     | false =>
      try dsimp only at hO105
      refine gx_o (gx_k (.bool false) w116 (gx_k (.bool false) w116 ?_))
      refine gx_nil ?_
      refine gx_thenN ?_
      refine hK83 _ _ ?_
      refine gx_ret ?_
      obtain rfl := Option.some.inj hO105
      exact gx_fin (.bool false) (by kernel_rfl) (by kernel_rfl) ⟨_, rfl, rfl, (hS117.pick [] rfl rfl)⟩
    | false =>
     try dsimp only at hO105
     refine gx_o (gx_o (gx_o (gx_k (.bool false) w99 (gx_k (.bool false) w99 (gx_o (gx_k (.bool false) w99 (gx_k (.bool false) w99 ?_)))))))
     refine gx_nil ?_
     refine gx_thenN ?_
     refine hK83 _ _ ?_
     refine gx_ret ?_
     obtain rfl := Option.some.inj hO105
     exact gx_fin (.bool false) (by kernel_rfl) (by kernel_rfl) ⟨_, rfl, rfl, (hS100.pick [] rfl rfl)⟩

def fNests_L2 (N : Nat) (l42 : List (Int × Int)) (x113 : Int) (x135 : Int × Int) (x148 : Int × Int) (l359 : List (Bool)) : Nat → Int → Option (Ctl (List (Bool)) (Bool))
 | 0, _ => none
 | k371+1, x370 => (if x370 < x113 then ((ixg l42 x370).bind fun x382 => (if x382.1 ≥ x135.1 then some (Ctl.ret false) else ((ixg l42 x370).bind fun x398 => (if x398.2 > x135.1 then ((ixg l42 x370).bind fun x412 => (if x412.2 < x148.2 then some (Ctl.ret false) else fNests_L2 N l42 x113 x135 x148 l359 k371 (IntKind.i64.wrap (x370 + 1)))) else fNests_L2 N l42 x113 x135 x148 l359 k371 (IntKind.i64.wrap (x370 + 1)))))) else some (Ctl.go l359))
def fNests_L1 (N : Nat) (p0 : List Int) (p1 : List Int) (p2 : List Int) (l42 : List (Int × Int)) (l63 : List Int) : Nat → (List (Bool)) → Int → Option (Ctl (List (Bool)) (Bool))
 | 0, _, _ => none
 | k114+1, l110, x113 => (if x113 < ((l42.length : Nat) : Int) then ((((ixg l42 x113).bind fun x135 => ((ixg l42 x113).bind fun x148 => (((((if x135.1 < 0 then some (true) else (if x148.2 ≤ x135.1 then some (true) else some (false))) : Option (Bool)).bind fun b174 => (((match b174 with | true => some (true) | false => (if x148.2 ≥ ((p0.length : Nat) : Int) then some (true) else some (false))) : Option (Bool)).bind fun b185 => (((match b185 with | true => some (true) | false => ((ixg l110 x135.1).bind fun x201 => some (x201))) : Option (Bool)).bind fun b195 => (((match b195 with | true => some (true) | false => ((ixg l110 x148.2).bind fun x219 => some (x219))) : Option (Bool)).bind fun b213 => (((match b213 with | true => some (true) | false => ((ix p2 x135.1).bind fun x237 => (if x237 ≠ 14 then some (true) else some (false)))) : Option (Bool)).bind fun b231 => (((match b231 with | true => some (true) | false => ((ix p2 x148.2).bind fun x249 => (if x249 ≠ 14 then some (true) else some (false)))) : Option (Bool)).bind fun b243 => (match b243 with | true => some (Ctl.ret false) | false => ((ix l63 x135.1).bind fun x254 => ((ix l63 x148.2).bind fun x256 => (((if x254 ≠ x256 then ((ix p1 x135.1).bind fun x268 => (if x268 ≠ 9 then some (true) else some (false))) else some (false)) : Option (Bool)).bind fun b261 => (match b261 with | true => ((ix p1 x148.2).bind fun x271 => (if x271 ≠ 9 then some (Ctl.ret false) else some (Ctl.go ()))) | false => some (Ctl.go ())))))))))))) : Option (Ctl (Unit) (Bool))).bind fun | Ctl.go () => ((ix p0 x135.1).bind fun x278 => ((rBr N x278).bind fun (x282, b283, b284) => ((ix p0 x148.2).bind fun x290 => ((rBr N x290).bind fun (x294, b295, b296) => (((((match b283 with | true => (match b284 with | true => some (false) | false => some (true)) | false => some (true)) : Option (Bool)).bind fun b311 => (((match b311 with | true => some (true) | false => some (b295)) : Option (Bool)).bind fun b319 => (match b319 with | true => some (Ctl.ret false) | false => (match b296 with | true => (if x282 ≠ x294 then some (Ctl.ret false) else some (Ctl.go ())) | false => some (Ctl.ret false))))) : Option (Ctl (Unit) (Bool))).bind fun | Ctl.go () => ((ixg l110 x135.1).bind fun _x333 => ((setg l110 x135.1 true).bind fun l342 => ((ixg l342 x148.2).bind fun _x350 => ((setg l342 x148.2 true).bind fun l359 => fNests_L2 N l42 x113 x135 x148 l359 N 0)))) | Ctl.ret r => some (Ctl.ret r)))))) | Ctl.ret r => some (Ctl.ret r)))) : Option (Ctl (List (Bool)) (Bool))).bind fun | Ctl.go l125 => fNests_L1 N p0 p1 p2 l42 l63 k114 l125 (IntKind.i64.wrap (x113 + 1)) | Ctl.ret r => some (Ctl.ret r)) else some (Ctl.go l110))
def fNests_L3 (N : Nat) (p0 : List Int) (p1 : List Int) (p2 : List Int) (l63 : List Int) (l98 : List (Bool)) : Nat → Int → Option (Ctl (Unit) (Bool))
 | 0, _ => none
 | k445+1, x444 => (if x444 < ((p0.length : Nat) : Int) then ((ix l63 x444).bind fun x458 => ((ix p2 x444).bind fun x460 => (((if x458 ≠ x460 then ((ixg l98 x444).bind fun x472 => (match x472 with | true => some (false) | false => some (true))) else some (false)) : Option (Bool)).bind fun b465 => (((match b465 with | true => ((ix p1 x444).bind fun x490 => (if x490 ≠ 9 then some (true) else some (false))) | false => some (false)) : Option (Bool)).bind fun b484 => (match b484 with | true => some (Ctl.ret false) | false => ((ix l63 x444).bind fun x495 => ((ix p2 x444).bind fun x497 => (((if x495 ≠ x497 then ((ix l63 x444).bind fun x509 => (if x509 ≠ 1 then some (true) else some (false))) else some (false)) : Option (Bool)).bind fun b502 => (match b502 with | true => ((ix l63 x444).bind fun x512 => (if x512 ≠ 2 then some (Ctl.ret false) else fNests_L3 N p0 p1 p2 l63 l98 k445 (IntKind.i64.wrap (x444 + 1)))) | false => fNests_L3 N p0 p1 p2 l63 l98 k445 (IntKind.i64.wrap (x444 + 1))))))))))) else some (Ctl.go ()))
def fNests (N : Nat) (p0 : List Int) (p1 : List Int) (p2 : List Int) (p3 : Int) (p4 : Int) : Option (Bool) :=
 (((((if ((p0.length : Nat) : Int) > 800 then some (true) else (if ((p1.length : Nat) : Int) ≠ ((p0.length : Nat) : Int) then some (true) else some (false))) : Option (Bool)).bind fun b14 => (match b14 with | true => ((kAround N ).bind fun b25 => some (Ctl.ret b25)) | false => (if ((p2.length : Nat) : Int) ≠ ((p0.length : Nat) : Int) then ((kAround N ).bind fun b34 => some (Ctl.ret b34)) else some (Ctl.go ())))) : Option (Ctl (Unit) (Bool))).bind fun | Ctl.go () => ((pPrs N p0 p2).bind fun l42 => ((pPairs N p0 p1 p2 p3 p4).bind fun (l63, x66) => (((if x66 ≠ 0 then some (Ctl.ret false) else (if ((l63.length : Nat) : Int) ≠ ((p0.length : Nat) : Int) then some (Ctl.ret false) else some (Ctl.go ()))) : Option (Ctl (Unit) (Bool))).bind fun | Ctl.go () => ((mkg ((p0.length : Nat) : Int) (false : Bool)).bind fun l86 => ((fNests_L1 N p0 p1 p2 l42 l63 N l86 0 : Option (Ctl (List (Bool)) (Bool))).bind fun | Ctl.go l98 => ((fNests_L3 N p0 p1 p2 l63 l98 N 0 : Option (Ctl (Unit) (Bool))).bind fun | Ctl.go () => ((kAround N ).bind fun b522 => some b522) | Ctl.ret r => some r) | Ctl.ret r => some r)) | Ctl.ret r => some r))) | Ctl.ret r => some r)

set_option linter.unusedVariables false in
def fNests_R (r : Bool) (w0 : World) (v : Value) (w : World) : Prop := v = .bool r ∧ St [] w0 w []

set_option maxRecDepth 100000 in
set_option maxHeartbeats 4000000 in
theorem fNests_ok (N : Nat) (p0 : List Int) (p1 : List Int) (p2 : List Int) (p3 : Int) (p4 : Int) (A0 : Option Addr) (c0 : Nat) (A1 : Option Addr) (c1 : Nat) (A2 : Option Addr) (c2 : Nat) (r : Bool) (hF : fNests N p0 p1 p2 p3 p4 = some r) (w0 : World) (hv0 : Vw [] .i32 w0 A0 c0 p0) (hv1 : Vw [] .u8 w0 A1 c1 p1) (hv2 : Vw [] .u8 w0 A2 c2 p2) (hcd : MirW w0) :
  Calls Tryd.prog 11 #[.slice A0 p0.length c0, .slice A1 p1.length c1, .slice A2 p2.length c2, .int .u8 p3, .int .u8 p4] w0 fun e w => ∃ v, e = .returned v ∧ fNests_R r w0 v w := by
 have hS0 := (St.start w0).pool0
 unfold fNests at hF
 refine calls_of Tryd.func11 rfl ⟨((.slice A0 p0.length c0) :: (.slice A1 p1.length c1) :: (.slice A2 p2.length c2) :: (.int .u8 p3) :: (.int .u8 p4) :: un 270 ([])).toArray, []⟩ (by as_aux_lemma => kernel_rfl) ?_
 refine gx_seq (fun K1 hK2 => ?_)
 refine gx_region ?_
 refine gx_kA (.bool false) w0 ?_
 refine gx_nil ?_
 refine gx_thenN ?_
 refine hK2 _ _ ?_
 obtain ⟨c6, hE7, hO8⟩ := bind_in hF
 refine gx_cut (fun a w => selfA (fun u5 => ⟨((.slice A0 p0.length c0) :: (.slice A1 p1.length c1) :: (.slice A2 p2.length c2) :: (.int .u8 p3) :: (.int .u8 p4) :: un 5 ((u5 10) :: un 15 (dd u5 26 18 (un 231 ([]))))).toArray, []⟩) a ∧ Ctl.go () = c6 ∧ St [] w0 w [poolE ([]) w0]) ?_ ?_
 ·refine gx_seq (fun K9 hK10 => ?_)
  refine gx_region ?_
  refine gx_kA (.slice A0 p0.length c0) w0 (gx_kA (.int .i64 ((p0.length : Nat) : Int)) w0 ?_)
  obtain ⟨c15, hE16, hO17⟩ := bind_in hE7
  refine gx_part (l1 := [_, _, _, _, _, _, _, _]) (fun a w => ∃ (b14 : Bool), selfA (fun u13 => ⟨((.slice A0 p0.length c0) :: (.slice A1 p1.length c1) :: (.slice A2 p2.length c2) :: (.int .u8 p3) :: (.int .u8 p4) :: un 5 ((.bool false) :: un 15 ((u13 26) :: (.int .i64 ((p0.length : Nat) : Int)) :: dd u13 28 7 ((.bool b14) :: un 239 ([]))))).toArray, []⟩) a ∧ b14 = c15 ∧ St [] w0 w [poolE ([]) w0]) rfl ?_ ?_
  ·rcases if_in hE16 with ⟨h19, hE16⟩ | ⟨h19, hE16⟩
   ·refine gx_vA (.bool true) w0 (run_boolE (decide_eq_true h19) (by as_aux_lemma => kernel_rfl)) ?_
    refine gx_kA (.bool true) w0 (gx_oA (gx_oA (gx_oA (gx_oA (gx_oA (gx_kA (.bool true) w0 ?_))))))
    refine gx_nil ?_
    refine gx_thenN ?_
    exact ⟨true, selfA_i (by as_aux_lemma => kernel_rfl), (Option.some.inj hE16), hS0⟩
   ·refine gx_vA (.bool false) w0 (run_boolE (decide_eq_false h19) (by as_aux_lemma => kernel_rfl)) ?_
    refine gx_kA (.bool false) w0 (gx_kA (.slice A1 p1.length c1) w0 (gx_kA (.int .i64 ((p1.length : Nat) : Int)) w0 (gx_kA (.slice A0 p0.length c0) w0 (gx_kA (.int .i64 ((p0.length : Nat) : Int)) w0 ?_))))
    rcases if_in hE16 with ⟨h20, hE16⟩ | ⟨h20, hE16⟩
    ·refine gx_vA (.bool true) w0 (run_boolE (ne_yes h20) (by as_aux_lemma => kernel_rfl)) ?_
     refine gx_kA (.bool true) w0 ?_
     refine gx_nil ?_
     refine gx_thenN ?_
     exact ⟨true, selfA_i (by as_aux_lemma => kernel_rfl), (Option.some.inj hE16), hS0⟩
    ·refine gx_vA (.bool false) w0 (run_boolE (ne_no h20) (by as_aux_lemma => kernel_rfl)) ?_
     refine gx_kA (.bool false) w0 ?_
     refine gx_nil ?_
     refine gx_thenN ?_
     exact ⟨false, selfA_i (by as_aux_lemma => kernel_rfl), (Option.some.inj hE16), hS0⟩
  ·rintro _ w11 ⟨b14, hq18, rfl, hS12⟩
   obtain ⟨u13, rfl⟩ := selfA_u hq18
   try dsimp only at hO17
   refine gx_kA (.bool b14) w11 ?_
   cases b14 with
   | true =>
    try dsimp only at hO17
    refine gx_oA (gx_oA (gx_oA (gx_oA (gx_oA (gx_kA (.bool true) w11 ?_)))))
    refine gx_nil ?_
    refine gx_thenN ?_
    refine hK10 _ _ ?_
    refine gx_yes (by as_aux_lemma => kernel_rfl) ?_
    refine gx_seq (fun K21 hK22 => ?_)
    refine gx_region ?_
    have hP23 : St _ _ w11 ([] ++ [poolE ([]) w0]) := hS12
    obtain ⟨b25, hc24, hO17⟩ := bind_in hO17
    try dsimp only at hO17
    refine gx_cA (kAround_R b25 w11) (kAround_ok N  _ hc24 w11 (MirW.at hcd hS12.below)) ?_
    rintro _ w26 ⟨rfl, hT28⟩
    have hS27 : St _ _ w26 [poolE ([]) w0] := hS12.take _ hT28
    refine gx_kA (.bool b25) w26 ?_
    refine gx_nil ?_
    refine gx_thenN ?_
    refine hK22 _ _ ?_
    refine gx_ret ?_
    refine gx_thenR ?_
    obtain rfl := Option.some.inj hO17
    try dsimp only at hO8
    obtain rfl := Option.some.inj hO8
    exact gx_fin (.bool b25) (by as_aux_lemma => kernel_rfl) (by as_aux_lemma => kernel_rfl) ⟨_, rfl, rfl, (hS27.pick [] rfl rfl)⟩
   | false =>
    try dsimp only at hO17
    refine gx_kA (.slice A2 p2.length c2) w11 (gx_kA (.int .i64 ((p2.length : Nat) : Int)) w11 (gx_kA (.slice A0 p0.length c0) w11 (gx_kA (.int .i64 ((p0.length : Nat) : Int)) w11 ?_)))
    rcases if_in hO17 with ⟨h29, hO17⟩ | ⟨h29, hO17⟩
    ·refine gx_vA (.bool true) w11 (run_boolE (ne_yes h29) (by as_aux_lemma => kernel_rfl)) ?_
     refine gx_kA (.bool true) w11 ?_
     refine gx_nil ?_
     refine gx_thenN ?_
     refine hK10 _ _ ?_
     refine gx_yes (by as_aux_lemma => kernel_rfl) ?_
     refine gx_seq (fun K30 hK31 => ?_)
     refine gx_region ?_
     have hP32 : St _ _ w11 ([] ++ [poolE ([]) w0]) := hS12
     obtain ⟨b34, hc33, hO17⟩ := bind_in hO17
     try dsimp only at hO17
     refine gx_cA (kAround_R b34 w11) (kAround_ok N  _ hc33 w11 (MirW.at hcd hS12.below)) ?_
     rintro _ w35 ⟨rfl, hT37⟩
     have hS36 : St _ _ w35 [poolE ([]) w0] := hS12.take _ hT37
     refine gx_kA (.bool b34) w35 ?_
     refine gx_nil ?_
     refine gx_thenN ?_
     refine hK31 _ _ ?_
     refine gx_ret ?_
     refine gx_thenR ?_
     obtain rfl := Option.some.inj hO17
     try dsimp only at hO8
     obtain rfl := Option.some.inj hO8
     exact gx_fin (.bool b34) (by as_aux_lemma => kernel_rfl) (by as_aux_lemma => kernel_rfl) ⟨_, rfl, rfl, (hS36.pick [] rfl rfl)⟩
    ·refine gx_vA (.bool false) w11 (run_boolE (ne_no h29) (by as_aux_lemma => kernel_rfl)) ?_
     refine gx_kA (.bool false) w11 ?_
     refine gx_nil ?_
     refine gx_thenN ?_
     refine hK10 _ _ ?_
     refine gx_no (by as_aux_lemma => kernel_rfl) ?_
     refine gx_pass ?_
     refine gx_thenN ?_
     exact ⟨selfA_i (by as_aux_lemma => kernel_rfl), (Option.some.inj hO17), hS12⟩
 ·rintro _ w3 ⟨hq529, rfl, hS4⟩
  obtain ⟨u5, rfl⟩ := selfA_u hq529
  try dsimp only at hO8
  refine gx_seq (fun K38 hK39 => ?_)
  refine gx_region ?_
  refine gx_kA (.slice A0 p0.length c0) w3 (gx_kA (.slice A2 p2.length c2) w3 ?_)
  have hP40 : St _ _ w3 ([] ++ [poolE ([]) w0]) := hS4
  obtain ⟨l42, hc41, hO8⟩ := bind_in hO8
  try dsimp only at hO8
  refine gx_cA (pPrs_R l42 w3) (pPrs_ok N p0 p2 A0 c0 A2 c2 _ hc41 w3 (hP40.vwA hv0) (hP40.vwA hv2) (MirW.at hcd hS4.below)) ?_
  rintro _ w48 ⟨A43, c44, vs45, ft47, rfl, hT50, hf46⟩
  have hS49 : St _ _ w48 [poolE ([]) w0, rowG 30 2 (.slice A43 l42.length c44) l42.length vs45, poolE ft47 w48] := hS4.take _ hT50
  obtain ⟨ft51, W52, hS53, hT54, hU55⟩ := hS49.merge 2 0 rfl rfl (by decide)
  have hS53 : St _ _ w48 [poolE ft51 W52, rowG 30 2 (.slice A43 l42.length c44) l42.length vs45] := hS53
  have hT54 : Turn [] w0 w0 ([]) W52 ft51 := hT54
  have hf58 : (fEach (pairE (intE .i64) (intE .i64)) vs45 l42).rd W52 ft51 := hU55 _ hf46
  refine gx_kA (.slice A43 l42.length c44) w48 ?_
  refine gx_nil ?_
  refine gx_thenN ?_
  refine hK39 _ _ ?_
  refine gx_seq (fun K59 hK60 => ?_)
  refine gx_region ?_
  refine gx_kA (.slice A0 p0.length c0) w48 (gx_kA (.slice A1 p1.length c1) w48 (gx_kA (.slice A2 p2.length c2) w48 (gx_kA (.int .u8 p3) w48 (gx_kA (.int .u8 p4) w48 ?_))))
  have hP61 : St _ _ w48 ([] ++ [poolE ft51 W52, rowG 30 2 (.slice A43 l42.length c44) l42.length vs45]) := hS53
  obtain ⟨⟨l63, x66⟩, hc62, hO8⟩ := bind_in hO8
  try dsimp only at hO8
  refine gx_cA (pPairs_R (l63, x66) w48) (pPairs_ok N p0 p1 p2 p3 p4 A0 c0 A1 c1 A2 c2 _ hc62 w48 (hP61.vwA hv0) (hP61.vwA hv1) (hP61.vwA hv2) (MirW.at hcd hS53.below)) ?_
  rintro _ w67 ⟨A64, c65, rfl, hT69⟩
  have hS68 : St _ _ w67 [poolE ft51 W52, rowG 30 2 (.slice A43 l42.length c44) l42.length vs45, rowE .u8 33 A64 c65 l63] := hS53.take _ hT69
  refine gx_kA (.tuple #[.slice A64 l63.length c65, .int .i64 x66]) w67 (gx_kA (.slice A64 l63.length c65) w67 (gx_kA (.int .i64 x66) w67 (gx_kA (.slice A64 l63.length c65) w67 (gx_kA (.int .i64 x66) w67 ?_))))
  refine gx_nil ?_
  refine gx_thenN ?_
  refine hK60 _ _ ?_
  obtain ⟨c73, hE74, hO75⟩ := bind_in hO8
  refine gx_cut (fun a w => selfA (fun u72 => ⟨((.slice A0 p0.length c0) :: (.slice A1 p1.length c1) :: (.slice A2 p2.length c2) :: (.int .u8 p3) :: (.int .u8 p4) :: un 5 ((u72 10) :: (.slice A43 l42.length c44) :: (.slice A64 l63.length c65) :: (.int .i64 x66) :: un 12 (dd u5 26 18 (dd u72 44 7 ((.int .u8 p3) :: (.int .u8 p4) :: dd u72 53 2 ((.int .i64 x66) :: dd u72 56 9 (un 210 ([])))))))).toArray, []⟩) a ∧ Ctl.go () = c73 ∧ St [] w0 w [poolE ft51 W52, rowG 30 2 (.slice A43 l42.length c44) l42.length vs45, rowE .u8 33 A64 c65 l63]) ?_ ?_
  ·refine gx_seq (fun K76 hK77 => ?_)
   refine gx_region ?_
   refine gx_kA (.int .i64 x66) w67 ?_
   rcases if_in hE74 with ⟨h78, hE74⟩ | ⟨h78, hE74⟩
   ·refine gx_vA (.bool true) w67 (run_boolE (ne_yes h78) (by as_aux_lemma => kernel_rfl)) ?_
    refine gx_kA (.bool true) w67 (gx_oA (gx_oA (gx_oA (gx_oA (gx_oA (gx_kA (.bool true) w67 ?_))))))
    refine gx_nil ?_
    refine gx_thenN ?_
    refine hK77 _ _ ?_
    refine gx_yes (by as_aux_lemma => kernel_rfl) ?_
    refine gx_seq (fun K79 hK80 => ?_)
    refine gx_region ?_
    refine gx_kA (.bool false) w67 ?_
    refine gx_nil ?_
    refine gx_thenN ?_
    refine hK80 _ _ ?_
    refine gx_ret ?_
    refine gx_thenR ?_
    obtain rfl := Option.some.inj hE74
    try dsimp only at hO75
    obtain rfl := Option.some.inj hO75
    exact gx_fin (.bool false) (by as_aux_lemma => kernel_rfl) (by as_aux_lemma => kernel_rfl) ⟨_, rfl, rfl, (hS68.pick [] rfl rfl)⟩
   ·refine gx_vA (.bool false) w67 (run_boolE (ne_no h78) (by as_aux_lemma => kernel_rfl)) ?_
    refine gx_kA (.bool false) w67 (gx_kA (.slice A64 l63.length c65) w67 (gx_kA (.int .i64 ((l63.length : Nat) : Int)) w67 (gx_kA (.slice A0 p0.length c0) w67 (gx_kA (.int .i64 ((p0.length : Nat) : Int)) w67 ?_))))
    rcases if_in hE74 with ⟨h81, hE74⟩ | ⟨h81, hE74⟩
    ·refine gx_vA (.bool true) w67 (run_boolE (ne_yes h81) (by as_aux_lemma => kernel_rfl)) ?_
     refine gx_kA (.bool true) w67 ?_
     refine gx_nil ?_
     refine gx_thenN ?_
     refine hK77 _ _ ?_
     refine gx_yes (by as_aux_lemma => kernel_rfl) ?_
     refine gx_seq (fun K82 hK83 => ?_)
     refine gx_region ?_
     refine gx_kA (.bool false) w67 ?_
     refine gx_nil ?_
     refine gx_thenN ?_
     refine hK83 _ _ ?_
     refine gx_ret ?_
     refine gx_thenR ?_
     obtain rfl := Option.some.inj hE74
     try dsimp only at hO75
     obtain rfl := Option.some.inj hO75
     exact gx_fin (.bool false) (by as_aux_lemma => kernel_rfl) (by as_aux_lemma => kernel_rfl) ⟨_, rfl, rfl, (hS68.pick [] rfl rfl)⟩
    ·refine gx_vA (.bool false) w67 (run_boolE (ne_no h81) (by as_aux_lemma => kernel_rfl)) ?_
     refine gx_kA (.bool false) w67 ?_
     refine gx_nil ?_
     refine gx_thenN ?_
     refine hK77 _ _ ?_
     refine gx_no (by as_aux_lemma => kernel_rfl) ?_
     refine gx_pass ?_
     refine gx_thenN ?_
     exact ⟨selfA_i (by as_aux_lemma => kernel_rfl), (Option.some.inj hE74), hS68⟩
  ·rintro _ w70 ⟨hq528, rfl, hS71⟩
   obtain ⟨u72, rfl⟩ := selfA_u hq528
   try dsimp only at hO75
   refine gx_seq (fun K84 hK85 => ?_)
   refine gx_region ?_
   refine gx_kA (.slice A0 p0.length c0) w70 (gx_kA (.int .i64 ((p0.length : Nat) : Int)) w70 ?_)
   obtain ⟨l86, hm87, hO75⟩ := bind_in hO75
   refine gx_rA (st_makeP (k1 := .i64) (k2 := .i64) (e := boolE) (T := 4) (by_ := 1) (z := (.bool false)) (W := W52) (ft := ft51) rfl (by as_aux_lemma => kernel_rfl) (by as_aux_lemma => kernel_rfl) (by as_aux_lemma => kernel_rfl) (by as_aux_lemma => kernel_rfl) (by as_aux_lemma => kernel_rfl) (by decide) (rd_bool false) hS71 hm87) ?_
   rintro _ w88 ⟨A90, c91, vs92, rfl, hf93, hS89⟩
   have hS89 : St _ _ w88 [poolE ft51 W52, rowG 30 2 (.slice A43 l42.length c44) l42.length vs45, rowE .u8 33 A64 c65 l63, rowG 4 1 (.slice A90 l86.length c91) l86.length vs92] := hS89
   refine gx_kA (.slice A90 l86.length c91) w88 ?_
   refine gx_nil ?_
   refine gx_thenN ?_
   refine hK85 _ _ ?_
   obtain ⟨c101, hE102, hO103⟩ := bind_in hO75
   refine gx_cut (fun a w => ∃ (l98 : List (Bool)) (vs99 : List Value), selfA (fun u96 => ⟨((.slice A0 p0.length c0) :: (.slice A1 p1.length c1) :: (.slice A2 p2.length c2) :: (.int .u8 p3) :: (.int .u8 p4) :: un 5 (dd u96 10 2 ((.slice A64 l63.length c65) :: (.int .i64 x66) :: (.slice A90 l86.length c91) :: dd u96 15 10 (undef :: dd u5 26 18 (dd u72 44 7 ((.int .u8 p3) :: (.int .u8 p4) :: dd u72 53 2 ((.int .i64 x66) :: dd u72 56 9 ((u96 65) :: (.int .i64 ((p0.length : Nat) : Int)) :: dd u96 67 153 (un 55 ([])))))))))).toArray, []⟩) a ∧ Ctl.go l98 = c101 ∧ St [] w0 w [poolE ft51 W52, rowE .u8 33 A64 c65 l63, rowG 4 1 (.slice A90 l86.length c91) l86.length vs99] ∧ (fEach boolE vs99 l98).rd W52 ft51 ∧ l86.length = l98.length) ?_ ?_
   ·refine gx_seq (fun K104 hK105 => ?_)
    refine gx_region ?_
    refine gx_kA (.int .i64 0) w88 ?_
    refine gx_nil ?_
    refine gx_thenN ?_
    refine hK105 _ _ ?_
    refine gx_block ?_
    refine gx_loop (fun k a w => ∃ (l110 : List (Bool)) (x113 : Int) (vs111 : List Value), selfA (fun u108 => ⟨((.slice A0 p0.length c0) :: (.slice A1 p1.length c1) :: (.slice A2 p2.length c2) :: (.int .u8 p3) :: (.int .u8 p4) :: un 5 ((u108 10) :: (.slice A43 l42.length c44) :: (.slice A64 l63.length c65) :: (.int .i64 x66) :: (.slice A90 l86.length c91) :: (.int .i64 x113) :: dd u108 16 9 (undef :: dd u5 26 18 (dd u72 44 7 ((.int .u8 p3) :: (.int .u8 p4) :: dd u72 53 2 ((.int .i64 x66) :: dd u72 56 9 ((u108 65) :: (.int .i64 ((p0.length : Nat) : Int)) :: dd u108 67 153 (un 55 ([]))))))))).toArray, []⟩) a ∧ fNests_L1 N p0 p1 p2 l42 l63 k l110 x113 = some c101 ∧ St [] w0 w [poolE ft51 W52, rowG 30 2 (.slice A43 l42.length c44) l42.length vs45, rowE .u8 33 A64 c65 l63, rowG 4 1 (.slice A90 l86.length c91) l86.length vs111] ∧ (fEach boolE vs111 l110).rd W52 ft51 ∧ l86.length = l110.length) N ?_ ?_
    ·exact ⟨l86, 0, vs92, selfA_i (by as_aux_lemma => kernel_rfl), hE102, hS89, hf93, rfl⟩
    ·rintro k114 _ w106 ⟨l110, x113, vs111, hq432, hL115, hS107, hf112, hn109⟩
     obtain ⟨u108, rfl⟩ := selfA_u hq432
     cases k114 with
     | zero => cases hL115
     | succ k114 =>
      first | rw [fNests_L1] at hL115 | unfold fNests_L1 at hL115
      refine gx_seq (fun K116 hK117 => ?_)
      refine gx_seq (fun K118 hK119 => ?_)
      refine gx_region ?_
      refine gx_kA (.int .i64 x113) w106 (gx_kA (.slice A43 l42.length c44) w106 (gx_kA (.int .i64 ((l42.length : Nat) : Int)) w106 ?_))
      rcases if_in hL115 with ⟨h120, hL115⟩ | ⟨h120, hL115⟩
      ·refine gx_vA (.bool true) w106 (run_boolE (decide_eq_true h120) (by as_aux_lemma => kernel_rfl)) ?_
       refine gx_nil ?_
       refine gx_thenN ?_
       refine hK119 _ _ ?_
       refine gx_yes (by as_aux_lemma => kernel_rfl) ?_
       refine gx_pass ?_
       refine gx_thenN ?_
       refine hK117 _ _ ?_
       obtain ⟨c128, hE129, hO130⟩ := bind_in hL115
       refine gx_cut (fun a w => ∃ (l125 : List (Bool)) (vs126 : List Value), selfA (fun u123 => ⟨((.slice A0 p0.length c0) :: (.slice A1 p1.length c1) :: (.slice A2 p2.length c2) :: (.int .u8 p3) :: (.int .u8 p4) :: un 5 ((u123 10) :: (.slice A43 l42.length c44) :: (.slice A64 l63.length c65) :: (.int .i64 x66) :: (.slice A90 l86.length c91) :: (.int .i64 x113) :: dd u123 16 9 (undef :: dd u5 26 18 (dd u72 44 7 ((.int .u8 p3) :: (.int .u8 p4) :: dd u72 53 2 ((.int .i64 x66) :: dd u72 56 9 ((u108 65) :: (.int .i64 ((p0.length : Nat) : Int)) :: (u108 67) :: (.int .i64 x113) :: (u123 69) :: (.int .i64 ((l42.length : Nat) : Int)) :: (.bool true) :: dd u108 72 2 (dd u123 74 146 (un 55 ([])))))))))).toArray, []⟩) a ∧ Ctl.go l125 = c128 ∧ St [] w0 w [poolE ft51 W52, rowG 30 2 (.slice A43 l42.length c44) l42.length vs45, rowE .u8 33 A64 c65 l63, rowG 4 1 (.slice A90 l86.length c91) l86.length vs126] ∧ (fEach boolE vs126 l125).rd W52 ft51 ∧ l86.length = l125.length) ?_ ?_
       ·refine gx_block ?_
        refine gx_seq (fun K131 hK132 => ?_)
        refine gd_start (fun w => St [] w0 w [poolE ft51 W52, rowG 30 2 (.slice A43 l42.length c44) l42.length vs45, rowE .u8 33 A64 c65 l63, rowG 4 1 (.slice A90 l86.length c91) l86.length vs111]) 12 #[false, false, false, false, false, false, false, false, false, false, false, false] (by as_aux_lemma => kernel_rfl) (by as_aux_lemma => kernel_rfl) ?_
        have hS134 := hS107.drew
        generalize w106.drew = w133 at hS134 ⊢
        refine gv1 0 74 (.slice A43 l42.length c44) rfl hS134 ?_
        refine gv1 1 75 (.int .i64 x113) rfl hS134 ?_
        obtain ⟨x135, hx136, hE129⟩ := bind_in hE129
        obtain ⟨g137, o138, e139, hA140, he141, h142, ha143⟩ := elem_at (e := (pairE (intE .i64) (intE .i64))) (rowG_lies (e := (pairE (intE .i64) (intE .i64))) rfl (hS134.get 1 rfl)) hf58 hx136 (by decide)
        obtain ⟨e144, e145, rfl, h146, h147⟩ := h142
        obtain rfl := h146
        obtain rfl := h147
        have ha143 : ∀ w', Lies w' A43 vs45 → w'.rangeAt g137 o138 [.int .i64 x135.1, .int .i64 x135.2] := ha143
        refine gu1 2 76 (.pointer (some ⟨g137, o138, none⟩)) rfl hS134 (fun w hSw => run_ixaddrN (E := 30) (s := 2) (k := .i64) (c := c44) rfl (by as_aux_lemma => kernel_rfl) (by as_aux_lemma => kernel_rfl) (by as_aux_lemma => kernel_rfl) (fun _ => by kernel_rfl) (ixg_in hx136).1 (ixg_in hx136).2.1 hA140) ?_
        refine gv1 3 77 (.pointer (some ⟨g137, o138, none⟩)) rfl hS134 ?_
        refine gu1 4 78 (.int .i64 x135.1) rfl hS134 (fun w hSw => run_loadN1 0 rfl (by as_aux_lemma => kernel_rfl) (fun _ => by kernel_rfl) (ha143 _ (rowG_lies (e := (pairE (intE .i64) (intE .i64))) rfl (hSw.get 1 rfl))) rfl) ?_
        refine gv1 5 79 (.slice A43 l42.length c44) rfl hS134 ?_
        refine gv1 6 80 (.int .i64 x113) rfl hS134 ?_
        obtain ⟨x148, hx149, hE129⟩ := bind_in hE129
        obtain ⟨g150, o151, e152, hA153, he154, h155, ha156⟩ := elem_at (e := (pairE (intE .i64) (intE .i64))) (rowG_lies (e := (pairE (intE .i64) (intE .i64))) rfl (hS134.get 1 rfl)) hf58 hx149 (by decide)
        obtain ⟨e157, e158, rfl, h159, h160⟩ := h155
        obtain rfl := h159
        obtain rfl := h160
        have ha156 : ∀ w', Lies w' A43 vs45 → w'.rangeAt g150 o151 [.int .i64 x148.1, .int .i64 x148.2] := ha156
        refine gu1 7 81 (.pointer (some ⟨g150, o151, none⟩)) rfl hS134 (fun w hSw => run_ixaddrN (E := 30) (s := 2) (k := .i64) (c := c44) rfl (by as_aux_lemma => kernel_rfl) (by as_aux_lemma => kernel_rfl) (by as_aux_lemma => kernel_rfl) (fun _ => by kernel_rfl) (ixg_in hx149).1 (ixg_in hx149).2.1 hA153) ?_
        refine gv1 8 82 (.pointer (some ⟨g150, o151 + 1, none⟩)) rfl hS134 ?_
        refine gu1 9 83 (.int .i64 x148.2) rfl hS134 (fun w hSw => run_loadN1 1 rfl (by as_aux_lemma => kernel_rfl) (fun _ => by kernel_rfl) (ha156 _ (rowG_lies (e := (pairE (intE .i64) (intE .i64))) rfl (hSw.get 1 rfl))) rfl) ?_
        refine gv1 10 16 (.int .i64 x135.1) rfl hS134 ?_
        refine gv1 11 17 (.int .i64 x148.2) rfl hS134 ?_
        refine gd_done (by as_aux_lemma => kernel_rfl) ?_
        refine gx_thenN ?_
        refine hK132 _ _ ?_
        obtain ⟨c164, hE165, hO166⟩ := bind_in hE129
        refine gx_cut (fun a w => selfA (fun u163 => ⟨((.slice A0 p0.length c0) :: (.slice A1 p1.length c1) :: (.slice A2 p2.length c2) :: (.int .u8 p3) :: (.int .u8 p4) :: un 5 ((u163 10) :: (.slice A43 l42.length c44) :: (.slice A64 l63.length c65) :: (.int .i64 x66) :: (.slice A90 l86.length c91) :: (.int .i64 x113) :: (.int .i64 x135.1) :: (.int .i64 x148.2) :: dd u108 18 7 (undef :: dd u5 26 18 (dd u72 44 7 ((.int .u8 p3) :: (.int .u8 p4) :: dd u72 53 2 ((.int .i64 x66) :: dd u72 56 9 ((u108 65) :: (.int .i64 ((p0.length : Nat) : Int)) :: (u108 67) :: (.int .i64 x113) :: (u163 69) :: (.int .i64 ((l42.length : Nat) : Int)) :: (.bool true) :: dd u108 72 2 ((u163 74) :: (.int .i64 x113) :: dd u163 76 2 ((.int .i64 x135.1) :: (u163 79) :: (.int .i64 x113) :: dd u163 81 2 ((.int .i64 x148.2) :: dd u163 84 64 (dd u108 148 72 (un 55 ([]))))))))))))).toArray, []⟩) a ∧ Ctl.go () = c164 ∧ St [] w0 w [poolE ft51 W52, rowG 30 2 (.slice A43 l42.length c44) l42.length vs45, rowE .u8 33 A64 c65 l63, rowG 4 1 (.slice A90 l86.length c91) l86.length vs111]) ?_ ?_
        ·refine gx_seq (fun K167 hK168 => ?_)
         refine gd_start (fun w => St [] w0 w [poolE ft51 W52, rowG 30 2 (.slice A43 l42.length c44) l42.length vs45, rowE .u8 33 A64 c65 l63, rowG 4 1 (.slice A90 l86.length c91) l86.length vs111]) 64 #[false, false, false, false, false, false, false, false, false, false, false, false, false, false, false, false, false, false, false, false, false, false, false, false, false, false, false, false, false, false, false, false, false, false, false, false, false, false, false, false, false, false, false, false, false, false, false, false, false, false, false, false, false, false, false, false, false, false, false, false, false, false, false, false] (by as_aux_lemma => kernel_rfl) (by as_aux_lemma => kernel_rfl) ?_
         have hS170 := hS134.drew
         generalize w133.drew = w169 at hS170 ⊢
         refine gv1 0 84 (.int .i64 x135.1) rfl hS170 ?_
         obtain ⟨c175, hE176, hO177⟩ := bind_in hE165
         refine gd_mid (fun a w => ∃ (b174 : Bool), selfA (fun u173 => ⟨((.slice A0 p0.length c0) :: (.slice A1 p1.length c1) :: (.slice A2 p2.length c2) :: (.int .u8 p3) :: (.int .u8 p4) :: un 5 ((u108 10) :: (.slice A43 l42.length c44) :: (.slice A64 l63.length c65) :: (.int .i64 x66) :: (.slice A90 l86.length c91) :: (.int .i64 x113) :: (.int .i64 x135.1) :: (.int .i64 x148.2) :: dd u108 18 7 (undef :: dd u5 26 18 (dd u72 44 7 ((.int .u8 p3) :: (.int .u8 p4) :: dd u72 53 2 ((.int .i64 x66) :: dd u72 56 9 ((u108 65) :: (.int .i64 ((p0.length : Nat) : Int)) :: (u108 67) :: (.int .i64 x113) :: (u173 69) :: (.int .i64 ((l42.length : Nat) : Int)) :: (.bool true) :: dd u108 72 2 ((u173 74) :: (.int .i64 x113) :: dd u173 76 2 ((.int .i64 x135.1) :: (u173 79) :: (.int .i64 x113) :: dd u173 81 2 ((.int .i64 x148.2) :: (.int .i64 x135.1) :: dd u173 85 5 ((.bool b174) :: dd u108 91 129 (un 55 ([]))))))))))))).toArray, []⟩) a ∧ b174 = c175 ∧ St [] w0 w [poolE ft51 W52, rowG 30 2 (.slice A43 l42.length c44) l42.length vs45, rowE .u8 33 A64 c65 l63, rowG 4 1 (.slice A90 l86.length c91) l86.length vs111]) 57 #[true, true, true, true, true, true, true, false, false, false, false, false, false, false, false, false, false, false, false, false, false, false, false, false, false, false, false, false, false, false, false, false, false, false, false, false, false, false, false, false, false, false, false, false, false, false, false, false, false, false, false, false, false, false, false, false, false, false, false, false, false, false, false, false] ?_ ?_
         ·rintro _ w171 ⟨b174, hq178, rfl, hS172⟩
          obtain ⟨u173, rfl⟩ := selfA_u hq178
          try dsimp only at hO177
          obtain ⟨c186, hE187, hO188⟩ := bind_in hO177
          refine gd_mid (fun a w => ∃ (b185 : Bool), selfA (fun u184 => ⟨((.slice A0 p0.length c0) :: (.slice A1 p1.length c1) :: (.slice A2 p2.length c2) :: (.int .u8 p3) :: (.int .u8 p4) :: un 5 ((u108 10) :: (.slice A43 l42.length c44) :: (.slice A64 l63.length c65) :: (.int .i64 x66) :: (.slice A90 l86.length c91) :: (.int .i64 x113) :: (.int .i64 x135.1) :: (.int .i64 x148.2) :: dd u108 18 7 (undef :: dd u5 26 18 (dd u72 44 7 ((.int .u8 p3) :: (.int .u8 p4) :: dd u72 53 2 ((.int .i64 x66) :: dd u72 56 9 ((u108 65) :: (.int .i64 ((p0.length : Nat) : Int)) :: (u108 67) :: (.int .i64 x113) :: (u173 69) :: (.int .i64 ((l42.length : Nat) : Int)) :: (.bool true) :: dd u108 72 2 ((u173 74) :: (.int .i64 x113) :: dd u173 76 2 ((.int .i64 x135.1) :: (u173 79) :: (.int .i64 x113) :: dd u173 81 2 ((.int .i64 x148.2) :: (.int .i64 x135.1) :: dd u173 85 5 ((.bool b174) :: dd u184 91 5 ((.bool b185) :: dd u108 97 123 (un 55 ([])))))))))))))).toArray, []⟩) a ∧ b185 = c186 ∧ St [] w0 w [poolE ft51 W52, rowG 30 2 (.slice A43 l42.length c44) l42.length vs45, rowE .u8 33 A64 c65 l63, rowG 4 1 (.slice A90 l86.length c91) l86.length vs111]) 51 #[true, true, true, true, true, true, true, true, true, true, true, true, true, false, false, false, false, false, false, false, false, false, false, false, false, false, false, false, false, false, false, false, false, false, false, false, false, false, false, false, false, false, false, false, false, false, false, false, false, false, false, false, false, false, false, false, false, false, false, false, false, false, false, false] ?_ ?_
          ·rintro _ w182 ⟨b185, hq189, rfl, hS183⟩
           obtain ⟨u184, rfl⟩ := selfA_u hq189
           try dsimp only at hO188
           obtain ⟨c196, hE197, hO198⟩ := bind_in hO188
           refine gd_mid (fun a w => ∃ (b195 : Bool), selfA (fun u194 => ⟨((.slice A0 p0.length c0) :: (.slice A1 p1.length c1) :: (.slice A2 p2.length c2) :: (.int .u8 p3) :: (.int .u8 p4) :: un 5 ((u108 10) :: (.slice A43 l42.length c44) :: (.slice A64 l63.length c65) :: (.int .i64 x66) :: (.slice A90 l86.length c91) :: (.int .i64 x113) :: (.int .i64 x135.1) :: (.int .i64 x148.2) :: dd u108 18 7 (undef :: dd u5 26 18 (dd u72 44 7 ((.int .u8 p3) :: (.int .u8 p4) :: dd u72 53 2 ((.int .i64 x66) :: dd u72 56 9 ((u108 65) :: (.int .i64 ((p0.length : Nat) : Int)) :: (u108 67) :: (.int .i64 x113) :: (u173 69) :: (.int .i64 ((l42.length : Nat) : Int)) :: (.bool true) :: dd u108 72 2 ((u173 74) :: (.int .i64 x113) :: dd u173 76 2 ((.int .i64 x135.1) :: (u173 79) :: (.int .i64 x113) :: dd u173 81 2 ((.int .i64 x148.2) :: (.int .i64 x135.1) :: dd u173 85 5 ((.bool b174) :: dd u184 91 5 ((.bool b185) :: dd u194 97 5 ((.bool b195) :: dd u108 103 117 (un 55 ([]))))))))))))))).toArray, []⟩) a ∧ b195 = c196 ∧ St [] w0 w [poolE ft51 W52, rowG 30 2 (.slice A43 l42.length c44) l42.length vs45, rowE .u8 33 A64 c65 l63, rowG 4 1 (.slice A90 l86.length c91) l86.length vs111]) 45 #[true, true, true, true, true, true, true, true, true, true, true, true, true, true, true, true, true, true, true, false, false, false, false, false, false, false, false, false, false, false, false, false, false, false, false, false, false, false, false, false, false, false, false, false, false, false, false, false, false, false, false, false, false, false, false, false, false, false, false, false, false, false, false, false] ?_ ?_
           ·rintro _ w192 ⟨b195, hq199, rfl, hS193⟩
            obtain ⟨u194, rfl⟩ := selfA_u hq199
            try dsimp only at hO198
            obtain ⟨c214, hE215, hO216⟩ := bind_in hO198
            refine gd_mid (fun a w => ∃ (b213 : Bool), selfA (fun u212 => ⟨((.slice A0 p0.length c0) :: (.slice A1 p1.length c1) :: (.slice A2 p2.length c2) :: (.int .u8 p3) :: (.int .u8 p4) :: un 5 ((u108 10) :: (.slice A43 l42.length c44) :: (.slice A64 l63.length c65) :: (.int .i64 x66) :: (.slice A90 l86.length c91) :: (.int .i64 x113) :: (.int .i64 x135.1) :: (.int .i64 x148.2) :: dd u108 18 7 (undef :: dd u5 26 18 (dd u72 44 7 ((.int .u8 p3) :: (.int .u8 p4) :: dd u72 53 2 ((.int .i64 x66) :: dd u72 56 9 ((u108 65) :: (.int .i64 ((p0.length : Nat) : Int)) :: (u108 67) :: (.int .i64 x113) :: (u173 69) :: (.int .i64 ((l42.length : Nat) : Int)) :: (.bool true) :: dd u108 72 2 ((u173 74) :: (.int .i64 x113) :: dd u173 76 2 ((.int .i64 x135.1) :: (u173 79) :: (.int .i64 x113) :: dd u173 81 2 ((.int .i64 x148.2) :: (.int .i64 x135.1) :: dd u173 85 5 ((.bool b174) :: dd u184 91 5 ((.bool b185) :: dd u194 97 5 ((.bool b195) :: dd u212 103 5 ((.bool b213) :: dd u108 109 111 (un 55 ([])))))))))))))))).toArray, []⟩) a ∧ b213 = c214 ∧ St [] w0 w [poolE ft51 W52, rowG 30 2 (.slice A43 l42.length c44) l42.length vs45, rowE .u8 33 A64 c65 l63, rowG 4 1 (.slice A90 l86.length c91) l86.length vs111]) 39 #[true, true, true, true, true, true, true, true, true, true, true, true, true, true, true, true, true, true, true, true, true, true, true, true, true, false, false, false, false, false, false, false, false, false, false, false, false, false, false, false, false, false, false, false, false, false, false, false, false, false, false, false, false, false, false, false, false, false, false, false, false, false, false, false] ?_ ?_
            ·rintro _ w210 ⟨b213, hq217, rfl, hS211⟩
             obtain ⟨u212, rfl⟩ := selfA_u hq217
             try dsimp only at hO216
             obtain ⟨c232, hE233, hO234⟩ := bind_in hO216
             refine gd_mid (fun a w => ∃ (b231 : Bool), selfA (fun u230 => ⟨((.slice A0 p0.length c0) :: (.slice A1 p1.length c1) :: (.slice A2 p2.length c2) :: (.int .u8 p3) :: (.int .u8 p4) :: un 5 ((u108 10) :: (.slice A43 l42.length c44) :: (.slice A64 l63.length c65) :: (.int .i64 x66) :: (.slice A90 l86.length c91) :: (.int .i64 x113) :: (.int .i64 x135.1) :: (.int .i64 x148.2) :: dd u108 18 7 (undef :: dd u5 26 18 (dd u72 44 7 ((.int .u8 p3) :: (.int .u8 p4) :: dd u72 53 2 ((.int .i64 x66) :: dd u72 56 9 ((u108 65) :: (.int .i64 ((p0.length : Nat) : Int)) :: (u108 67) :: (.int .i64 x113) :: (u173 69) :: (.int .i64 ((l42.length : Nat) : Int)) :: (.bool true) :: dd u108 72 2 ((u173 74) :: (.int .i64 x113) :: dd u173 76 2 ((.int .i64 x135.1) :: (u173 79) :: (.int .i64 x113) :: dd u173 81 2 ((.int .i64 x148.2) :: (.int .i64 x135.1) :: dd u173 85 5 ((.bool b174) :: dd u184 91 5 ((.bool b185) :: dd u194 97 5 ((.bool b195) :: dd u212 103 5 ((.bool b213) :: dd u230 109 6 ((.bool b231) :: dd u108 116 104 (un 55 ([]))))))))))))))))).toArray, []⟩) a ∧ b231 = c232 ∧ St [] w0 w [poolE ft51 W52, rowG 30 2 (.slice A43 l42.length c44) l42.length vs45, rowE .u8 33 A64 c65 l63, rowG 4 1 (.slice A90 l86.length c91) l86.length vs111]) 32 #[true, true, true, true, true, true, true, true, true, true, true, true, true, true, true, true, true, true, true, true, true, true, true, true, true, true, true, true, true, true, true, true, false, false, false, false, false, false, false, false, false, false, false, false, false, false, false, false, false, false, false, false, false, false, false, false, false, false, false, false, false, false, false, false] ?_ ?_
             ·rintro _ w228 ⟨b231, hq235, rfl, hS229⟩
              obtain ⟨u230, rfl⟩ := selfA_u hq235
              try dsimp only at hO234
              obtain ⟨c244, hE245, hO246⟩ := bind_in hO234
              refine gd_mid (fun a w => ∃ (b243 : Bool), selfA (fun u242 => ⟨((.slice A0 p0.length c0) :: (.slice A1 p1.length c1) :: (.slice A2 p2.length c2) :: (.int .u8 p3) :: (.int .u8 p4) :: un 5 ((u108 10) :: (.slice A43 l42.length c44) :: (.slice A64 l63.length c65) :: (.int .i64 x66) :: (.slice A90 l86.length c91) :: (.int .i64 x113) :: (.int .i64 x135.1) :: (.int .i64 x148.2) :: dd u108 18 7 (undef :: dd u5 26 18 (dd u72 44 7 ((.int .u8 p3) :: (.int .u8 p4) :: dd u72 53 2 ((.int .i64 x66) :: dd u72 56 9 ((u108 65) :: (.int .i64 ((p0.length : Nat) : Int)) :: (u108 67) :: (.int .i64 x113) :: (u173 69) :: (.int .i64 ((l42.length : Nat) : Int)) :: (.bool true) :: dd u108 72 2 ((u173 74) :: (.int .i64 x113) :: dd u173 76 2 ((.int .i64 x135.1) :: (u173 79) :: (.int .i64 x113) :: dd u173 81 2 ((.int .i64 x148.2) :: (.int .i64 x135.1) :: dd u173 85 5 ((.bool b174) :: dd u184 91 5 ((.bool b185) :: dd u194 97 5 ((.bool b195) :: dd u212 103 5 ((.bool b213) :: dd u230 109 6 ((.bool b231) :: dd u242 116 6 ((.bool b243) :: dd u108 123 97 (un 55 ([])))))))))))))))))).toArray, []⟩) a ∧ b243 = c244 ∧ St [] w0 w [poolE ft51 W52, rowG 30 2 (.slice A43 l42.length c44) l42.length vs45, rowE .u8 33 A64 c65 l63, rowG 4 1 (.slice A90 l86.length c91) l86.length vs111]) 25 #[true, true, true, true, true, true, true, true, true, true, true, true, true, true, true, true, true, true, true, true, true, true, true, true, true, true, true, true, true, true, true, true, true, true, true, true, true, true, true, false, false, false, false, false, false, false, false, false, false, false, false, false, false, false, false, false, false, false, false, false, false, false, false, false] ?_ ?_
              ·rintro _ w240 ⟨b243, hq247, rfl, hS241⟩
               obtain ⟨u242, rfl⟩ := selfA_u hq247
               try dsimp only at hO246
               refine gv1 39 123 (.bool b243) rfl hS241 ?_
               cases b243 with
               | true =>
                try dsimp only at hO246
                refine gz1 40 124 rfl hS241 ?_
                refine gz1 41 125 rfl hS241 ?_
                refine gz1 42 126 rfl hS241 ?_
                refine gz1 43 127 rfl hS241 ?_
                refine gz1 44 128 rfl hS241 ?_
                refine gz1 45 129 rfl hS241 ?_
                refine gz1 46 130 rfl hS241 ?_
                refine gz1 47 131 rfl hS241 ?_
                refine gz1 48 132 rfl hS241 ?_
                refine gz1 49 133 rfl hS241 ?_
                refine gz1 50 134 rfl hS241 ?_
                refine gz1 51 135 rfl hS241 ?_
                refine gz1 52 136 rfl hS241 ?_
                refine gz1 53 137 rfl hS241 ?_
                refine gz1 54 138 rfl hS241 ?_
                refine gz1 55 139 rfl hS241 ?_
                refine gz1 56 140 rfl hS241 ?_
                refine gz1 57 141 rfl hS241 ?_
                refine gz1 58 142 rfl hS241 ?_
                refine gz1 59 143 rfl hS241 ?_
                refine gz1 60 144 rfl hS241 ?_
                refine gz1 61 145 rfl hS241 ?_
                refine gz1 62 146 rfl hS241 ?_
                refine gv1 63 147 (.bool true) rfl hS241 ?_
                refine gd_done (by as_aux_lemma => kernel_rfl) ?_
                refine gx_thenN ?_
                refine hK168 _ _ ?_
                refine gx_yes (by as_aux_lemma => kernel_rfl) ?_
                refine gx_seq (fun K252 hK253 => ?_)
                refine gx_region ?_
                refine gx_kA (.bool false) w240 ?_
                refine gx_nil ?_
                refine gx_thenN ?_
                refine hK253 _ _ ?_
                refine gx_ret ?_
                refine gx_thenR ?_
                obtain rfl := Option.some.inj hO246
                try dsimp only at hO166
                refine gx_blkR ?_
                refine gx_thenR ?_
                obtain rfl := Option.some.inj hO166
                try dsimp only at hO130
                refine gx_thenR ?_
                refine gx_blkR ?_
                refine gx_thenR ?_
                obtain rfl := Option.some.inj hO130
                try dsimp only at hO103
                obtain rfl := Option.some.inj hO103
                exact gx_fin (.bool false) (by as_aux_lemma => kernel_rfl) (by as_aux_lemma => kernel_rfl) ⟨_, rfl, rfl, (hS241.pick [] rfl rfl)⟩
               | false =>
                try dsimp only at hO246
                refine gv1 40 124 (.slice A64 l63.length c65) rfl hS241 ?_
                refine gv1 41 125 (.int .i64 x135.1) rfl hS241 ?_
                obtain ⟨x254, hx255, hO246⟩ := bind_in hO246
                refine gu1 42 126 (.pointer (Option.map (fun (p : Addr) => p.add (Int.toNat x135.1 * 1)) A64)) rfl hS241 (fun w hSw => run_ixaddr (E := 33) (s := 1) (k := .i64) (c := c65) rfl (by as_aux_lemma => kernel_rfl) (by as_aux_lemma => kernel_rfl) (by as_aux_lemma => kernel_rfl) (fun _ => by kernel_rfl) (ix_in hx255).1 (ix_in hx255).2.1 (num_nil (hS241.row 2 rfl).1)) ?_
                refine gu1 43 127 (.int .u8 x254) rfl hS241 (fun w hSw => run_loadix rfl (by as_aux_lemma => kernel_rfl) (fun _ => by kernel_rfl) (hSw.row 2 rfl).1 hx255) ?_
                refine gv1 44 128 (.slice A64 l63.length c65) rfl hS241 ?_
                refine gv1 45 129 (.int .i64 x148.2) rfl hS241 ?_
                obtain ⟨x256, hx257, hO246⟩ := bind_in hO246
                refine gu1 46 130 (.pointer (Option.map (fun (p : Addr) => p.add (Int.toNat x148.2 * 1)) A64)) rfl hS241 (fun w hSw => run_ixaddr (E := 33) (s := 1) (k := .i64) (c := c65) rfl (by as_aux_lemma => kernel_rfl) (by as_aux_lemma => kernel_rfl) (by as_aux_lemma => kernel_rfl) (fun _ => by kernel_rfl) (ix_in hx257).1 (ix_in hx257).2.1 (num_nil (hS241.row 2 rfl).1)) ?_
                refine gu1 47 131 (.int .u8 x256) rfl hS241 (fun w hSw => run_loadix rfl (by as_aux_lemma => kernel_rfl) (fun _ => by kernel_rfl) (hSw.row 2 rfl).1 hx257) ?_
                obtain ⟨c262, hE263, hO264⟩ := bind_in hO246
                refine gd_mid (fun a w => ∃ (b261 : Bool), selfA (fun u260 => ⟨((.slice A0 p0.length c0) :: (.slice A1 p1.length c1) :: (.slice A2 p2.length c2) :: (.int .u8 p3) :: (.int .u8 p4) :: un 5 ((u108 10) :: (.slice A43 l42.length c44) :: (.slice A64 l63.length c65) :: (.int .i64 x66) :: (.slice A90 l86.length c91) :: (.int .i64 x113) :: (.int .i64 x135.1) :: (.int .i64 x148.2) :: dd u108 18 7 (undef :: dd u5 26 18 (dd u72 44 7 ((.int .u8 p3) :: (.int .u8 p4) :: dd u72 53 2 ((.int .i64 x66) :: dd u72 56 9 ((u108 65) :: (.int .i64 ((p0.length : Nat) : Int)) :: (u108 67) :: (.int .i64 x113) :: (u173 69) :: (.int .i64 ((l42.length : Nat) : Int)) :: (.bool true) :: dd u108 72 2 ((u173 74) :: (.int .i64 x113) :: dd u173 76 2 ((.int .i64 x135.1) :: (u173 79) :: (.int .i64 x113) :: dd u173 81 2 ((.int .i64 x148.2) :: (.int .i64 x135.1) :: dd u173 85 5 ((.bool b174) :: dd u184 91 5 ((.bool b185) :: dd u194 97 5 ((.bool b195) :: dd u212 103 5 ((.bool b213) :: dd u230 109 6 ((.bool b231) :: dd u242 116 6 ((.bool false) :: (.bool false) :: (u260 124) :: (.int .i64 x135.1) :: (.pointer (Option.map (fun (p : Addr) => p.add (Int.toNat x135.1 * 1)) A64)) :: (.int .u8 x254) :: (u260 128) :: (.int .i64 x148.2) :: (.pointer (Option.map (fun (p : Addr) => p.add (Int.toNat x148.2 * 1)) A64)) :: (.int .u8 x256) :: dd u260 132 7 ((.bool b261) :: dd u108 140 80 (un 55 ([]))))))))))))))))))).toArray, []⟩) a ∧ b261 = c262 ∧ St [] w0 w [poolE ft51 W52, rowG 30 2 (.slice A43 l42.length c44) l42.length vs45, rowE .u8 33 A64 c65 l63, rowG 4 1 (.slice A90 l86.length c91) l86.length vs111]) 8 #[true, true, true, true, true, true, true, true, true, true, true, true, true, true, true, true, true, true, true, true, true, true, true, true, true, true, true, true, true, true, true, true, true, true, true, true, true, true, true, true, true, true, true, true, true, true, true, true, true, true, true, true, true, true, true, true, false, false, false, false, false, false, false, false] ?_ ?_
                ·rintro _ w258 ⟨b261, hq265, rfl, hS259⟩
                 obtain ⟨u260, rfl⟩ := selfA_u hq265
                 try dsimp only at hO264
                 refine gv1 56 140 (.bool b261) rfl hS259 ?_
                 cases b261 with
                 | true =>
                  try dsimp only at hO264
                  refine gv1 57 141 (.slice A1 p1.length c1) rfl hS259 ?_
                  refine gv1 58 142 (.int .i64 x148.2) rfl hS259 ?_
                  obtain ⟨x271, hx272, hO264⟩ := bind_in hO264
                  refine gu1 59 143 (.pointer (Option.map (fun (p : Addr) => p.add (Int.toNat x148.2 * 1)) A1)) rfl hS259 (fun w hSw => run_ixaddr (E := 33) (s := 1) (k := .i64) (c := c1) rfl (by as_aux_lemma => kernel_rfl) (by as_aux_lemma => kernel_rfl) (by as_aux_lemma => kernel_rfl) (fun _ => by kernel_rfl) (ix_in hx272).1 (ix_in hx272).2.1 (num_nil (hS259.view hv1))) ?_
                  refine gu1 60 144 (.int .u8 x271) rfl hS259 (fun w hSw => run_loadix rfl (by as_aux_lemma => kernel_rfl) (fun _ => by kernel_rfl) (hSw.view hv1) hx272) ?_
                  rcases if_in hO264 with ⟨h273, hO264⟩ | ⟨h273, hO264⟩
                  ·refine gu1 61 145 (.bool true) rfl hS259 (fun w hSw => run_boolE (ne_yes h273) (by as_aux_lemma => kernel_rfl)) ?_
                   refine gv1 62 146 (.bool true) rfl hS259 ?_
                   refine gv1 63 147 (.bool true) rfl hS259 ?_
                   refine gd_done (by as_aux_lemma => kernel_rfl) ?_
                   refine gx_thenN ?_
                   refine hK168 _ _ ?_
                   refine gx_yes (by as_aux_lemma => kernel_rfl) ?_
                   refine gx_seq (fun K274 hK275 => ?_)
                   refine gx_region ?_
                   refine gx_kA (.bool false) w258 ?_
                   refine gx_nil ?_
                   refine gx_thenN ?_
                   refine hK275 _ _ ?_
                   refine gx_ret ?_
                   refine gx_thenR ?_
                   obtain rfl := Option.some.inj hO264
                   try dsimp only at hO166
                   refine gx_blkR ?_
                   refine gx_thenR ?_
                   obtain rfl := Option.some.inj hO166
                   try dsimp only at hO130
                   refine gx_thenR ?_
                   refine gx_blkR ?_
                   refine gx_thenR ?_
                   obtain rfl := Option.some.inj hO130
                   try dsimp only at hO103
                   obtain rfl := Option.some.inj hO103
                   exact gx_fin (.bool false) (by as_aux_lemma => kernel_rfl) (by as_aux_lemma => kernel_rfl) ⟨_, rfl, rfl, (hS259.pick [] rfl rfl)⟩
                  ·refine gu1 61 145 (.bool false) rfl hS259 (fun w hSw => run_boolE (ne_no h273) (by as_aux_lemma => kernel_rfl)) ?_
                   refine gv1 62 146 (.bool false) rfl hS259 ?_
                   refine gv1 63 147 (.bool false) rfl hS259 ?_
                   refine gd_done (by as_aux_lemma => kernel_rfl) ?_
                   refine gx_thenN ?_
                   refine hK168 _ _ ?_
                   refine gx_no (by as_aux_lemma => kernel_rfl) ?_
                   refine gx_pass ?_
                   refine gx_thenN ?_
                   exact ⟨selfA_i (by as_aux_lemma => kernel_rfl), (Option.some.inj hO264), hS259⟩
                 | false =>
                  try dsimp only at hO264
                  refine gz1 57 141 rfl hS259 ?_
                  refine gz1 58 142 rfl hS259 ?_
                  refine gz1 59 143 rfl hS259 ?_
                  refine gz1 60 144 rfl hS259 ?_
                  refine gz1 61 145 rfl hS259 ?_
                  refine gv1 62 146 (.bool false) rfl hS259 ?_
                  refine gv1 63 147 (.bool false) rfl hS259 ?_
                  refine gd_done (by as_aux_lemma => kernel_rfl) ?_
                  refine gx_thenN ?_
                  refine hK168 _ _ ?_
                  refine gx_no (by as_aux_lemma => kernel_rfl) ?_
                  refine gx_pass ?_
                  refine gx_thenN ?_
                  exact ⟨selfA_i (by as_aux_lemma => kernel_rfl), (Option.some.inj hO264), hS259⟩
                ·intro hK266
                 rcases if_in hE263 with ⟨h267, hE263⟩ | ⟨h267, hE263⟩
                 ·refine gu1 48 132 (.bool true) rfl hS241 (fun w hSw => run_boolE (ne_yes h267) (by as_aux_lemma => kernel_rfl)) ?_
                  refine gv1 49 133 (.bool true) rfl hS241 ?_
                  refine gv1 50 134 (.slice A1 p1.length c1) rfl hS241 ?_
                  refine gv1 51 135 (.int .i64 x135.1) rfl hS241 ?_
                  obtain ⟨x268, hx269, hE263⟩ := bind_in hE263
                  refine gu1 52 136 (.pointer (Option.map (fun (p : Addr) => p.add (Int.toNat x135.1 * 1)) A1)) rfl hS241 (fun w hSw => run_ixaddr (E := 33) (s := 1) (k := .i64) (c := c1) rfl (by as_aux_lemma => kernel_rfl) (by as_aux_lemma => kernel_rfl) (by as_aux_lemma => kernel_rfl) (fun _ => by kernel_rfl) (ix_in hx269).1 (ix_in hx269).2.1 (num_nil (hS241.view hv1))) ?_
                  refine gu1 53 137 (.int .u8 x268) rfl hS241 (fun w hSw => run_loadix rfl (by as_aux_lemma => kernel_rfl) (fun _ => by kernel_rfl) (hSw.view hv1) hx269) ?_
                  rcases if_in hE263 with ⟨h270, hE263⟩ | ⟨h270, hE263⟩
                  ·refine gu1 54 138 (.bool true) rfl hS241 (fun w hSw => run_boolE (ne_yes h270) (by as_aux_lemma => kernel_rfl)) ?_
                   refine gv1 55 139 (.bool true) rfl hS241 ?_
                   exact gd_to hK266 (by as_aux_lemma => kernel_rfl) ⟨true, selfA_i (by as_aux_lemma => kernel_rfl), (Option.some.inj hE263), hS241⟩
                  ·refine gu1 54 138 (.bool false) rfl hS241 (fun w hSw => run_boolE (ne_no h270) (by as_aux_lemma => kernel_rfl)) ?_
                   refine gv1 55 139 (.bool false) rfl hS241 ?_
                   exact gd_to hK266 (by as_aux_lemma => kernel_rfl) ⟨false, selfA_i (by as_aux_lemma => kernel_rfl), (Option.some.inj hE263), hS241⟩
                 ·refine gu1 48 132 (.bool false) rfl hS241 (fun w hSw => run_boolE (ne_no h267) (by as_aux_lemma => kernel_rfl)) ?_
                  refine gv1 49 133 (.bool false) rfl hS241 ?_
                  refine gz1 50 134 rfl hS241 ?_
                  refine gz1 51 135 rfl hS241 ?_
                  refine gz1 52 136 rfl hS241 ?_
                  refine gz1 53 137 rfl hS241 ?_
                  refine gz1 54 138 rfl hS241 ?_
                  refine gv1 55 139 (.bool false) rfl hS241 ?_
                  exact gd_to hK266 (by as_aux_lemma => kernel_rfl) ⟨false, selfA_i (by as_aux_lemma => kernel_rfl), (Option.some.inj hE263), hS241⟩
              ·intro hK248
               refine gv1 32 116 (.bool b231) rfl hS229 ?_
               cases b231 with
               | true =>
                try dsimp only at hE245
                refine gz1 33 117 rfl hS229 ?_
                refine gz1 34 118 rfl hS229 ?_
                refine gz1 35 119 rfl hS229 ?_
                refine gz1 36 120 rfl hS229 ?_
                refine gz1 37 121 rfl hS229 ?_
                refine gv1 38 122 (.bool true) rfl hS229 ?_
                exact gd_to hK248 (by as_aux_lemma => kernel_rfl) ⟨true, selfA_i (by as_aux_lemma => kernel_rfl), (Option.some.inj hE245), hS229⟩
               | false =>
                try dsimp only at hE245
                refine gv1 33 117 (.slice A2 p2.length c2) rfl hS229 ?_
                refine gv1 34 118 (.int .i64 x148.2) rfl hS229 ?_
                obtain ⟨x249, hx250, hE245⟩ := bind_in hE245
                refine gu1 35 119 (.pointer (Option.map (fun (p : Addr) => p.add (Int.toNat x148.2 * 1)) A2)) rfl hS229 (fun w hSw => run_ixaddr (E := 33) (s := 1) (k := .i64) (c := c2) rfl (by as_aux_lemma => kernel_rfl) (by as_aux_lemma => kernel_rfl) (by as_aux_lemma => kernel_rfl) (fun _ => by kernel_rfl) (ix_in hx250).1 (ix_in hx250).2.1 (num_nil (hS229.view hv2))) ?_
                refine gu1 36 120 (.int .u8 x249) rfl hS229 (fun w hSw => run_loadix rfl (by as_aux_lemma => kernel_rfl) (fun _ => by kernel_rfl) (hSw.view hv2) hx250) ?_
                rcases if_in hE245 with ⟨h251, hE245⟩ | ⟨h251, hE245⟩
                ·refine gu1 37 121 (.bool true) rfl hS229 (fun w hSw => run_boolE (ne_yes h251) (by as_aux_lemma => kernel_rfl)) ?_
                 refine gv1 38 122 (.bool true) rfl hS229 ?_
                 exact gd_to hK248 (by as_aux_lemma => kernel_rfl) ⟨true, selfA_i (by as_aux_lemma => kernel_rfl), (Option.some.inj hE245), hS229⟩
                ·refine gu1 37 121 (.bool false) rfl hS229 (fun w hSw => run_boolE (ne_no h251) (by as_aux_lemma => kernel_rfl)) ?_
                 refine gv1 38 122 (.bool false) rfl hS229 ?_
                 exact gd_to hK248 (by as_aux_lemma => kernel_rfl) ⟨false, selfA_i (by as_aux_lemma => kernel_rfl), (Option.some.inj hE245), hS229⟩
             ·intro hK236
              refine gv1 25 109 (.bool b213) rfl hS211 ?_
              cases b213 with
              | true =>
               try dsimp only at hE233
               refine gz1 26 110 rfl hS211 ?_
               refine gz1 27 111 rfl hS211 ?_
               refine gz1 28 112 rfl hS211 ?_
               refine gz1 29 113 rfl hS211 ?_
               refine gz1 30 114 rfl hS211 ?_
               refine gv1 31 115 (.bool true) rfl hS211 ?_
               exact gd_to hK236 (by as_aux_lemma => kernel_rfl) ⟨true, selfA_i (by as_aux_lemma => kernel_rfl), (Option.some.inj hE233), hS211⟩
              | false =>
               try dsimp only at hE233
               refine gv1 26 110 (.slice A2 p2.length c2) rfl hS211 ?_
               refine gv1 27 111 (.int .i64 x135.1) rfl hS211 ?_
               obtain ⟨x237, hx238, hE233⟩ := bind_in hE233
               refine gu1 28 112 (.pointer (Option.map (fun (p : Addr) => p.add (Int.toNat x135.1 * 1)) A2)) rfl hS211 (fun w hSw => run_ixaddr (E := 33) (s := 1) (k := .i64) (c := c2) rfl (by as_aux_lemma => kernel_rfl) (by as_aux_lemma => kernel_rfl) (by as_aux_lemma => kernel_rfl) (fun _ => by kernel_rfl) (ix_in hx238).1 (ix_in hx238).2.1 (num_nil (hS211.view hv2))) ?_
               refine gu1 29 113 (.int .u8 x237) rfl hS211 (fun w hSw => run_loadix rfl (by as_aux_lemma => kernel_rfl) (fun _ => by kernel_rfl) (hSw.view hv2) hx238) ?_
               rcases if_in hE233 with ⟨h239, hE233⟩ | ⟨h239, hE233⟩
               ·refine gu1 30 114 (.bool true) rfl hS211 (fun w hSw => run_boolE (ne_yes h239) (by as_aux_lemma => kernel_rfl)) ?_
                refine gv1 31 115 (.bool true) rfl hS211 ?_
                exact gd_to hK236 (by as_aux_lemma => kernel_rfl) ⟨true, selfA_i (by as_aux_lemma => kernel_rfl), (Option.some.inj hE233), hS211⟩
               ·refine gu1 30 114 (.bool false) rfl hS211 (fun w hSw => run_boolE (ne_no h239) (by as_aux_lemma => kernel_rfl)) ?_
                refine gv1 31 115 (.bool false) rfl hS211 ?_
                exact gd_to hK236 (by as_aux_lemma => kernel_rfl) ⟨false, selfA_i (by as_aux_lemma => kernel_rfl), (Option.some.inj hE233), hS211⟩
            ·intro hK218
             refine gv1 19 103 (.bool b195) rfl hS193 ?_
             cases b195 with
             | true =>
              try dsimp only at hE215
              refine gz1 20 104 rfl hS193 ?_
              refine gz1 21 105 rfl hS193 ?_
              refine gz1 22 106 rfl hS193 ?_
              refine gz1 23 107 rfl hS193 ?_
              refine gv1 24 108 (.bool true) rfl hS193 ?_
              exact gd_to hK218 (by as_aux_lemma => kernel_rfl) ⟨true, selfA_i (by as_aux_lemma => kernel_rfl), (Option.some.inj hE215), hS193⟩
             | false =>
              try dsimp only at hE215
              refine gv1 20 104 (.slice A90 l86.length c91) rfl hS193 ?_
              refine gv1 21 105 (.int .i64 x148.2) rfl hS193 ?_
              obtain ⟨x219, hx220, hE215⟩ := bind_in hE215
              obtain ⟨g221, o222, e223, hA224, he225, h226, ha227⟩ := elem_at (e := boolE) (rowG_lies (e := boolE) hn109 (hS193.get 3 rfl)) hf112 hx220 (by decide)
              obtain rfl := h226
              have ha227 : ∀ w', Lies w' A90 vs111 → w'.rangeAt g221 o222 [.bool x219] := ha227
              refine gu1 22 106 (.pointer (some ⟨g221, o222, none⟩)) rfl hS193 (fun w hSw => run_ixaddrN (E := 4) (s := 1) (k := .i64) (c := c91) rfl (by as_aux_lemma => kernel_rfl) (by as_aux_lemma => kernel_rfl) (by as_aux_lemma => kernel_rfl) (fun _ => by kernel_rfl) (ixg_in hx220).1 (lt_len hn109 (ixg_in hx220).2.1) hA224) ?_
              refine gu1 23 107 (.bool x219) rfl hS193 (fun w hSw => run_loadN1 0 rfl (by as_aux_lemma => kernel_rfl) (fun _ => by kernel_rfl) (ha227 _ (rowG_lies (e := boolE) hn109 (hSw.get 3 rfl))) rfl) ?_
              refine gv1 24 108 (.bool x219) rfl hS193 ?_
              exact gd_to hK218 (by as_aux_lemma => kernel_rfl) ⟨x219, selfA_i (by as_aux_lemma => kernel_rfl), (Option.some.inj hE215), hS193⟩
           ·intro hK200
            refine gv1 13 97 (.bool b185) rfl hS183 ?_
            cases b185 with
            | true =>
             try dsimp only at hE197
             refine gz1 14 98 rfl hS183 ?_
             refine gz1 15 99 rfl hS183 ?_
             refine gz1 16 100 rfl hS183 ?_
             refine gz1 17 101 rfl hS183 ?_
             refine gv1 18 102 (.bool true) rfl hS183 ?_
             exact gd_to hK200 (by as_aux_lemma => kernel_rfl) ⟨true, selfA_i (by as_aux_lemma => kernel_rfl), (Option.some.inj hE197), hS183⟩
            | false =>
             try dsimp only at hE197
             refine gv1 14 98 (.slice A90 l86.length c91) rfl hS183 ?_
             refine gv1 15 99 (.int .i64 x135.1) rfl hS183 ?_
             obtain ⟨x201, hx202, hE197⟩ := bind_in hE197
             obtain ⟨g203, o204, e205, hA206, he207, h208, ha209⟩ := elem_at (e := boolE) (rowG_lies (e := boolE) hn109 (hS183.get 3 rfl)) hf112 hx202 (by decide)
             obtain rfl := h208
             have ha209 : ∀ w', Lies w' A90 vs111 → w'.rangeAt g203 o204 [.bool x201] := ha209
             refine gu1 16 100 (.pointer (some ⟨g203, o204, none⟩)) rfl hS183 (fun w hSw => run_ixaddrN (E := 4) (s := 1) (k := .i64) (c := c91) rfl (by as_aux_lemma => kernel_rfl) (by as_aux_lemma => kernel_rfl) (by as_aux_lemma => kernel_rfl) (fun _ => by kernel_rfl) (ixg_in hx202).1 (lt_len hn109 (ixg_in hx202).2.1) hA206) ?_
             refine gu1 17 101 (.bool x201) rfl hS183 (fun w hSw => run_loadN1 0 rfl (by as_aux_lemma => kernel_rfl) (fun _ => by kernel_rfl) (ha209 _ (rowG_lies (e := boolE) hn109 (hSw.get 3 rfl))) rfl) ?_
             refine gv1 18 102 (.bool x201) rfl hS183 ?_
             exact gd_to hK200 (by as_aux_lemma => kernel_rfl) ⟨x201, selfA_i (by as_aux_lemma => kernel_rfl), (Option.some.inj hE197), hS183⟩
          ·intro hK190
           refine gv1 7 91 (.bool b174) rfl hS172 ?_
           cases b174 with
           | true =>
            try dsimp only at hE187
            refine gz1 8 92 rfl hS172 ?_
            refine gz1 9 93 rfl hS172 ?_
            refine gz1 10 94 rfl hS172 ?_
            refine gz1 11 95 rfl hS172 ?_
            refine gv1 12 96 (.bool true) rfl hS172 ?_
            exact gd_to hK190 (by as_aux_lemma => kernel_rfl) ⟨true, selfA_i (by as_aux_lemma => kernel_rfl), (Option.some.inj hE187), hS172⟩
           | false =>
            try dsimp only at hE187
            refine gv1 8 92 (.int .i64 x148.2) rfl hS172 ?_
            refine gv1 9 93 (.slice A0 p0.length c0) rfl hS172 ?_
            refine gv1 10 94 (.int .i64 ((p0.length : Nat) : Int)) rfl hS172 ?_
            rcases if_in hE187 with ⟨h191, hE187⟩ | ⟨h191, hE187⟩
            ·refine gu1 11 95 (.bool true) rfl hS172 (fun w hSw => run_boolE (decide_eq_true h191) (by as_aux_lemma => kernel_rfl)) ?_
             refine gv1 12 96 (.bool true) rfl hS172 ?_
             exact gd_to hK190 (by as_aux_lemma => kernel_rfl) ⟨true, selfA_i (by as_aux_lemma => kernel_rfl), (Option.some.inj hE187), hS172⟩
            ·refine gu1 11 95 (.bool false) rfl hS172 (fun w hSw => run_boolE (decide_eq_false h191) (by as_aux_lemma => kernel_rfl)) ?_
             refine gv1 12 96 (.bool false) rfl hS172 ?_
             exact gd_to hK190 (by as_aux_lemma => kernel_rfl) ⟨false, selfA_i (by as_aux_lemma => kernel_rfl), (Option.some.inj hE187), hS172⟩
         ·intro hK179
          rcases if_in hE176 with ⟨h180, hE176⟩ | ⟨h180, hE176⟩
          ·refine gu1 1 85 (.bool true) rfl hS170 (fun w hSw => run_boolE (decide_eq_true h180) (by as_aux_lemma => kernel_rfl)) ?_
           refine gv1 2 86 (.bool true) rfl hS170 ?_
           refine gz1 3 87 rfl hS170 ?_
           refine gz1 4 88 rfl hS170 ?_
           refine gz1 5 89 rfl hS170 ?_
           refine gv1 6 90 (.bool true) rfl hS170 ?_
           exact gd_to hK179 (by as_aux_lemma => kernel_rfl) ⟨true, selfA_i (by as_aux_lemma => kernel_rfl), (Option.some.inj hE176), hS170⟩
          ·refine gu1 1 85 (.bool false) rfl hS170 (fun w hSw => run_boolE (decide_eq_false h180) (by as_aux_lemma => kernel_rfl)) ?_
           refine gv1 2 86 (.bool false) rfl hS170 ?_
           refine gv1 3 87 (.int .i64 x148.2) rfl hS170 ?_
           refine gv1 4 88 (.int .i64 x135.1) rfl hS170 ?_
           rcases if_in hE176 with ⟨h181, hE176⟩ | ⟨h181, hE176⟩
           ·refine gu1 5 89 (.bool true) rfl hS170 (fun w hSw => run_boolE (decide_eq_true h181) (by as_aux_lemma => kernel_rfl)) ?_
            refine gv1 6 90 (.bool true) rfl hS170 ?_
            exact gd_to hK179 (by as_aux_lemma => kernel_rfl) ⟨true, selfA_i (by as_aux_lemma => kernel_rfl), (Option.some.inj hE176), hS170⟩
           ·refine gu1 5 89 (.bool false) rfl hS170 (fun w hSw => run_boolE (decide_eq_false h181) (by as_aux_lemma => kernel_rfl)) ?_
            refine gv1 6 90 (.bool false) rfl hS170 ?_
            exact gd_to hK179 (by as_aux_lemma => kernel_rfl) ⟨false, selfA_i (by as_aux_lemma => kernel_rfl), (Option.some.inj hE176), hS170⟩
        ·rintro _ w161 ⟨hq430, rfl, hS162⟩
         obtain ⟨u163, rfl⟩ := selfA_u hq430
         try dsimp only at hO166
         refine gx_seq (fun K276 hK277 => ?_)
         refine gx_region ?_
         refine gx_kA (.slice A0 p0.length c0) w161 (gx_kA (.int .i64 x135.1) w161 ?_)
         obtain ⟨x278, hx279, hO166⟩ := bind_in hO166
         refine gx_vA (.pointer (Option.map (fun (p : Addr) => p.add (Int.toNat x135.1 * 1)) A0)) w161 (run_ixaddr (E := 21) (s := 1) (k := .i64) (c := c0) rfl (by as_aux_lemma => kernel_rfl) (by as_aux_lemma => kernel_rfl) (by as_aux_lemma => kernel_rfl) (fun _ => by kernel_rfl) (ix_in hx279).1 (ix_in hx279).2.1 (num_nil (hS162.view hv0))) ?_
         refine gx_vA (.int .i32 x278) w161 (run_loadix rfl (by as_aux_lemma => kernel_rfl) (fun _ => by kernel_rfl) (hS162.view hv0) hx279) ?_
         have hP280 : St _ _ w161 ([] ++ [poolE ft51 W52, rowG 30 2 (.slice A43 l42.length c44) l42.length vs45, rowE .u8 33 A64 c65 l63, rowG 4 1 (.slice A90 l86.length c91) l86.length vs111]) := hS162
         obtain ⟨⟨x282, b283, b284⟩, hc281, hO166⟩ := bind_in hO166
         try dsimp only at hO166
         refine gx_cA (rBr_R (x282, b283, b284) w161) (rBr_ok N x278 _ hc281 w161 ) ?_
         rintro _ w285 ⟨rfl, hT287⟩
         have hS286 : St _ _ w285 [poolE ft51 W52, rowG 30 2 (.slice A43 l42.length c44) l42.length vs45, rowE .u8 33 A64 c65 l63, rowG 4 1 (.slice A90 l86.length c91) l86.length vs111] := hS162.take _ hT287
         refine gx_kA (.tuple #[.int .i32 x282, .bool b283, .bool b284]) w285 (gx_kA (.int .i32 x282) w285 (gx_kA (.bool b283) w285 (gx_kA (.bool b284) w285 (gx_kA (.int .i32 x282) w285 (gx_kA (.bool b283) w285 (gx_kA (.bool b284) w285 ?_))))))
         refine gx_nil ?_
         refine gx_thenN ?_
         refine hK277 _ _ ?_
         refine gx_seq (fun K288 hK289 => ?_)
         refine gx_region ?_
         refine gx_kA (.slice A0 p0.length c0) w285 (gx_kA (.int .i64 x148.2) w285 ?_)
         obtain ⟨x290, hx291, hO166⟩ := bind_in hO166
         refine gx_vA (.pointer (Option.map (fun (p : Addr) => p.add (Int.toNat x148.2 * 1)) A0)) w285 (run_ixaddr (E := 21) (s := 1) (k := .i64) (c := c0) rfl (by as_aux_lemma => kernel_rfl) (by as_aux_lemma => kernel_rfl) (by as_aux_lemma => kernel_rfl) (fun _ => by kernel_rfl) (ix_in hx291).1 (ix_in hx291).2.1 (num_nil (hS286.view hv0))) ?_
         refine gx_vA (.int .i32 x290) w285 (run_loadix rfl (by as_aux_lemma => kernel_rfl) (fun _ => by kernel_rfl) (hS286.view hv0) hx291) ?_
         have hP292 : St _ _ w285 ([] ++ [poolE ft51 W52, rowG 30 2 (.slice A43 l42.length c44) l42.length vs45, rowE .u8 33 A64 c65 l63, rowG 4 1 (.slice A90 l86.length c91) l86.length vs111]) := hS286
         obtain ⟨⟨x294, b295, b296⟩, hc293, hO166⟩ := bind_in hO166
         try dsimp only at hO166
         refine gx_cA (rBr_R (x294, b295, b296) w285) (rBr_ok N x290 _ hc293 w285 ) ?_
         rintro _ w297 ⟨rfl, hT299⟩
         have hS298 : St _ _ w297 [poolE ft51 W52, rowG 30 2 (.slice A43 l42.length c44) l42.length vs45, rowE .u8 33 A64 c65 l63, rowG 4 1 (.slice A90 l86.length c91) l86.length vs111] := hS286.take _ hT299
         refine gx_kA (.tuple #[.int .i32 x294, .bool b295, .bool b296]) w297 (gx_kA (.int .i32 x294) w297 (gx_kA (.bool b295) w297 (gx_kA (.bool b296) w297 (gx_kA (.int .i32 x294) w297 (gx_kA (.bool b295) w297 (gx_kA (.bool b296) w297 ?_))))))
         refine gx_nil ?_
         refine gx_thenN ?_
         refine hK289 _ _ ?_
         obtain ⟨c303, hE304, hO305⟩ := bind_in hO166
         refine gx_cut (fun a w => selfA (fun u302 => ⟨((.slice A0 p0.length c0) :: (.slice A1 p1.length c1) :: (.slice A2 p2.length c2) :: (.int .u8 p3) :: (.int .u8 p4) :: un 5 ((u302 10) :: (.slice A43 l42.length c44) :: (.slice A64 l63.length c65) :: (.int .i64 x66) :: (.slice A90 l86.length c91) :: (.int .i64 x113) :: (.int .i64 x135.1) :: (.int .i64 x148.2) :: (.int .i32 x282) :: (.bool b283) :: (.bool b284) :: (.int .i32 x294) :: (.bool b295) :: (.bool b296) :: (u108 24) :: undef :: dd u5 26 18 (dd u72 44 7 ((.int .u8 p3) :: (.int .u8 p4) :: dd u72 53 2 ((.int .i64 x66) :: dd u72 56 9 ((u108 65) :: (.int .i64 ((p0.length : Nat) : Int)) :: (u108 67) :: (.int .i64 x113) :: (u163 69) :: (.int .i64 ((l42.length : Nat) : Int)) :: (.bool true) :: dd u108 72 2 ((u163 74) :: (.int .i64 x113) :: dd u163 76 2 ((.int .i64 x135.1) :: (u163 79) :: (.int .i64 x113) :: dd u163 81 2 ((.int .i64 x148.2) :: dd u163 84 64 (dd u302 148 2 ((.int .i64 x135.1) :: (.pointer (Option.map (fun (p : Addr) => p.add (Int.toNat x135.1 * 1)) A0)) :: (.int .i32 x278) :: (u302 153) :: (.int .i32 x282) :: (.bool b283) :: (.bool b284) :: dd u302 157 2 ((.int .i64 x148.2) :: (.pointer (Option.map (fun (p : Addr) => p.add (Int.toNat x148.2 * 1)) A0)) :: (.int .i32 x290) :: (u302 162) :: (.int .i32 x294) :: (.bool b295) :: (.bool b296) :: dd u302 166 18 (dd u108 184 36 (un 55 ([]))))))))))))))).toArray, []⟩) a ∧ Ctl.go () = c303 ∧ St [] w0 w [poolE ft51 W52, rowG 30 2 (.slice A43 l42.length c44) l42.length vs45, rowE .u8 33 A64 c65 l63, rowG 4 1 (.slice A90 l86.length c91) l86.length vs111]) ?_ ?_
         ·refine gx_seq (fun K306 hK307 => ?_)
          refine gx_region ?_
          refine gx_kA (.bool b283) w297 ?_
          obtain ⟨c312, hE313, hO314⟩ := bind_in hE304
          refine gx_part (l1 := [_, _, _, _, _]) (fun a w => ∃ (b311 : Bool), selfA (fun u310 => ⟨((.slice A0 p0.length c0) :: (.slice A1 p1.length c1) :: (.slice A2 p2.length c2) :: (.int .u8 p3) :: (.int .u8 p4) :: un 5 ((u163 10) :: (.slice A43 l42.length c44) :: (.slice A64 l63.length c65) :: (.int .i64 x66) :: (.slice A90 l86.length c91) :: (.int .i64 x113) :: (.int .i64 x135.1) :: (.int .i64 x148.2) :: (.int .i32 x282) :: (.bool b283) :: (.bool b284) :: (.int .i32 x294) :: (.bool b295) :: (.bool b296) :: (u108 24) :: undef :: dd u5 26 18 (dd u72 44 7 ((.int .u8 p3) :: (.int .u8 p4) :: dd u72 53 2 ((.int .i64 x66) :: dd u72 56 9 ((u108 65) :: (.int .i64 ((p0.length : Nat) : Int)) :: (u108 67) :: (.int .i64 x113) :: (u163 69) :: (.int .i64 ((l42.length : Nat) : Int)) :: (.bool true) :: dd u108 72 2 ((u163 74) :: (.int .i64 x113) :: dd u163 76 2 ((.int .i64 x135.1) :: (u163 79) :: (.int .i64 x113) :: dd u163 81 2 ((.int .i64 x148.2) :: dd u163 84 64 (dd u310 148 2 ((.int .i64 x135.1) :: (.pointer (Option.map (fun (p : Addr) => p.add (Int.toNat x135.1 * 1)) A0)) :: (.int .i32 x278) :: (u310 153) :: (.int .i32 x282) :: (.bool b283) :: (.bool b284) :: dd u310 157 2 ((.int .i64 x148.2) :: (.pointer (Option.map (fun (p : Addr) => p.add (Int.toNat x148.2 * 1)) A0)) :: (.int .i32 x290) :: (u310 162) :: (.int .i32 x294) :: (.bool b295) :: (.bool b296) :: (.bool b283) :: dd u310 167 4 ((.bool b311) :: dd u108 172 48 (un 55 ([]))))))))))))))).toArray, []⟩) a ∧ b311 = c312 ∧ St [] w0 w [poolE ft51 W52, rowG 30 2 (.slice A43 l42.length c44) l42.length vs45, rowE .u8 33 A64 c65 l63, rowG 4 1 (.slice A90 l86.length c91) l86.length vs111]) rfl ?_ ?_
          ·cases b283 with
           | true =>
            try dsimp only at hE313
            refine gx_kA (.bool false) w297 (gx_kA (.bool false) w297 (gx_kA (.bool b284) w297 ?_))
            cases b284 with
            | true =>
             try dsimp only at hE313
             refine gx_kA (.bool false) w297 (gx_kA (.bool false) w297 ?_)
             refine gx_nil ?_
             refine gx_thenN ?_
             exact ⟨false, selfA_i (by as_aux_lemma => kernel_rfl), (Option.some.inj hE313), hS298⟩
            | false =>
             try dsimp only at hE313
             refine gx_kA (.bool true) w297 (gx_kA (.bool true) w297 ?_)
             refine gx_nil ?_
             refine gx_thenN ?_
             exact ⟨true, selfA_i (by as_aux_lemma => kernel_rfl), (Option.some.inj hE313), hS298⟩
           | false =>
            try dsimp only at hE313
            refine gx_kA (.bool true) w297 (gx_kA (.bool true) w297 (gx_oA (gx_oA (gx_kA (.bool true) w297 ?_))))
            refine gx_nil ?_
            refine gx_thenN ?_
            exact ⟨true, selfA_i (by as_aux_lemma => kernel_rfl), (Option.some.inj hE313), hS298⟩
          ·rintro _ w308 ⟨b311, hq315, rfl, hS309⟩
           obtain ⟨u310, rfl⟩ := selfA_u hq315
           try dsimp only at hO314
           obtain ⟨c320, hE321, hO322⟩ := bind_in hO314
           refine gx_part (l1 := [_, _, _]) (fun a w => ∃ (b319 : Bool), selfA (fun u318 => ⟨((.slice A0 p0.length c0) :: (.slice A1 p1.length c1) :: (.slice A2 p2.length c2) :: (.int .u8 p3) :: (.int .u8 p4) :: un 5 ((u163 10) :: (.slice A43 l42.length c44) :: (.slice A64 l63.length c65) :: (.int .i64 x66) :: (.slice A90 l86.length c91) :: (.int .i64 x113) :: (.int .i64 x135.1) :: (.int .i64 x148.2) :: (.int .i32 x282) :: (.bool b283) :: (.bool b284) :: (.int .i32 x294) :: (.bool b295) :: (.bool b296) :: (u108 24) :: undef :: dd u5 26 18 (dd u72 44 7 ((.int .u8 p3) :: (.int .u8 p4) :: dd u72 53 2 ((.int .i64 x66) :: dd u72 56 9 ((u108 65) :: (.int .i64 ((p0.length : Nat) : Int)) :: (u108 67) :: (.int .i64 x113) :: (u163 69) :: (.int .i64 ((l42.length : Nat) : Int)) :: (.bool true) :: dd u108 72 2 ((u163 74) :: (.int .i64 x113) :: dd u163 76 2 ((.int .i64 x135.1) :: (u163 79) :: (.int .i64 x113) :: dd u163 81 2 ((.int .i64 x148.2) :: dd u163 84 64 (dd u310 148 2 ((.int .i64 x135.1) :: (.pointer (Option.map (fun (p : Addr) => p.add (Int.toNat x135.1 * 1)) A0)) :: (.int .i32 x278) :: (u310 153) :: (.int .i32 x282) :: (.bool b283) :: (.bool b284) :: dd u310 157 2 ((.int .i64 x148.2) :: (.pointer (Option.map (fun (p : Addr) => p.add (Int.toNat x148.2 * 1)) A0)) :: (.int .i32 x290) :: (u310 162) :: (.int .i32 x294) :: (.bool b295) :: (.bool b296) :: (.bool b283) :: dd u310 167 4 ((.bool b311) :: dd u318 172 2 ((.bool b319) :: dd u108 175 45 (un 55 ([])))))))))))))))).toArray, []⟩) a ∧ b319 = c320 ∧ St [] w0 w [poolE ft51 W52, rowG 30 2 (.slice A43 l42.length c44) l42.length vs45, rowE .u8 33 A64 c65 l63, rowG 4 1 (.slice A90 l86.length c91) l86.length vs111]) rfl ?_ ?_
           ·refine gx_kA (.bool b311) w308 ?_
            cases b311 with
            | true =>
             try dsimp only at hE321
             refine gx_oA (gx_kA (.bool true) w308 ?_)
             refine gx_nil ?_
             refine gx_thenN ?_
             exact ⟨true, selfA_i (by as_aux_lemma => kernel_rfl), (Option.some.inj hE321), hS309⟩
            | false =>
             try dsimp only at hE321
             refine gx_kA (.bool b295) w308 (gx_kA (.bool b295) w308 ?_)
             refine gx_nil ?_
             refine gx_thenN ?_
             exact ⟨b295, selfA_i (by as_aux_lemma => kernel_rfl), (Option.some.inj hE321), hS309⟩
           ·rintro _ w316 ⟨b319, hq323, rfl, hS317⟩
            obtain ⟨u318, rfl⟩ := selfA_u hq323
            try dsimp only at hO322
            refine gx_kA (.bool b319) w316 ?_
            cases b319 with
            | true =>
             try dsimp only at hO322
             refine gx_oA (gx_oA (gx_kA (.bool true) w316 (gx_kA (.bool true) w316 (gx_oA (gx_oA (gx_oA (gx_kA (.bool true) w316 ?_)))))))
             refine gx_nil ?_
             refine gx_thenN ?_
             refine hK307 _ _ ?_
             refine gx_yes (by as_aux_lemma => kernel_rfl) ?_
             refine gx_seq (fun K324 hK325 => ?_)
             refine gx_region ?_
             refine gx_kA (.bool false) w316 ?_
             refine gx_nil ?_
             refine gx_thenN ?_
             refine hK325 _ _ ?_
             refine gx_ret ?_
             refine gx_thenR ?_
             obtain rfl := Option.some.inj hO322
             try dsimp only at hO305
             refine gx_blkR ?_
             refine gx_thenR ?_
             obtain rfl := Option.some.inj hO305
             try dsimp only at hO130
             refine gx_thenR ?_
             refine gx_blkR ?_
             refine gx_thenR ?_
             obtain rfl := Option.some.inj hO130
             try dsimp only at hO103
             obtain rfl := Option.some.inj hO103
             exact gx_fin (.bool false) (by as_aux_lemma => kernel_rfl) (by as_aux_lemma => kernel_rfl) ⟨_, rfl, rfl, (hS317.pick [] rfl rfl)⟩
            | false =>
             try dsimp only at hO322
             refine gx_kA (.bool b296) w316 ?_
             cases b296 with
             | true =>
              try dsimp only at hO322
              refine gx_kA (.bool false) w316 (gx_kA (.bool false) w316 (gx_kA (.bool false) w316 (gx_kA (.int .i32 x282) w316 (gx_kA (.int .i32 x294) w316 ?_))))
              rcases if_in hO322 with ⟨h326, hO322⟩ | ⟨h326, hO322⟩
              ·refine gx_vA (.bool true) w316 (run_boolE (ne_yes h326) (by as_aux_lemma => kernel_rfl)) ?_
               refine gx_kA (.bool true) w316 ?_
               refine gx_nil ?_
               refine gx_thenN ?_
               refine hK307 _ _ ?_
               refine gx_yes (by as_aux_lemma => kernel_rfl) ?_
               refine gx_seq (fun K327 hK328 => ?_)
               refine gx_region ?_
               refine gx_kA (.bool false) w316 ?_
               refine gx_nil ?_
               refine gx_thenN ?_
               refine hK328 _ _ ?_
               refine gx_ret ?_
               refine gx_thenR ?_
               obtain rfl := Option.some.inj hO322
               try dsimp only at hO305
               refine gx_blkR ?_
               refine gx_thenR ?_
               obtain rfl := Option.some.inj hO305
               try dsimp only at hO130
               refine gx_thenR ?_
               refine gx_blkR ?_
               refine gx_thenR ?_
               obtain rfl := Option.some.inj hO130
               try dsimp only at hO103
               obtain rfl := Option.some.inj hO103
               exact gx_fin (.bool false) (by as_aux_lemma => kernel_rfl) (by as_aux_lemma => kernel_rfl) ⟨_, rfl, rfl, (hS317.pick [] rfl rfl)⟩
              ·refine gx_vA (.bool false) w316 (run_boolE (ne_no h326) (by as_aux_lemma => kernel_rfl)) ?_
               refine gx_kA (.bool false) w316 ?_
               refine gx_nil ?_
               refine gx_thenN ?_
               refine hK307 _ _ ?_
               refine gx_no (by as_aux_lemma => kernel_rfl) ?_
               refine gx_pass ?_
               refine gx_thenN ?_
               exact ⟨selfA_i (by as_aux_lemma => kernel_rfl), (Option.some.inj hO322), hS317⟩
             | false =>
              try dsimp only at hO322
              refine gx_kA (.bool true) w316 (gx_kA (.bool true) w316 (gx_kA (.bool true) w316 (gx_oA (gx_oA (gx_oA (gx_kA (.bool true) w316 ?_))))))
              refine gx_nil ?_
              refine gx_thenN ?_
              refine hK307 _ _ ?_
              refine gx_yes (by as_aux_lemma => kernel_rfl) ?_
              refine gx_seq (fun K329 hK330 => ?_)
              refine gx_region ?_
              refine gx_kA (.bool false) w316 ?_
              refine gx_nil ?_
              refine gx_thenN ?_
              refine hK330 _ _ ?_
              refine gx_ret ?_
              refine gx_thenR ?_
              obtain rfl := Option.some.inj hO322
              try dsimp only at hO305
              refine gx_blkR ?_
              refine gx_thenR ?_
              obtain rfl := Option.some.inj hO305
              try dsimp only at hO130
              refine gx_thenR ?_
              refine gx_blkR ?_
              refine gx_thenR ?_
              obtain rfl := Option.some.inj hO130
              try dsimp only at hO103
              obtain rfl := Option.some.inj hO103
              exact gx_fin (.bool false) (by as_aux_lemma => kernel_rfl) (by as_aux_lemma => kernel_rfl) ⟨_, rfl, rfl, (hS317.pick [] rfl rfl)⟩
         ·rintro _ w300 ⟨hq429, rfl, hS301⟩
          obtain ⟨u302, rfl⟩ := selfA_u hq429
          try dsimp only at hO305
          refine gx_seq (fun K331 hK332 => ?_)
          refine gx_region ?_
          refine gx_kA (.slice A90 l86.length c91) w300 (gx_kA (.int .i64 x135.1) w300 ?_)
          obtain ⟨x333, hx334, hO305⟩ := bind_in hO305
          obtain ⟨g335, o336, e337, hA338, he339, h340, ha341⟩ := elem_at (e := boolE) (rowG_lies (e := boolE) hn109 (hS301.get 3 rfl)) hf112 hx334 (by decide)
          obtain rfl := h340
          have ha341 : ∀ w', Lies w' A90 vs111 → w'.rangeAt g335 o336 [.bool x333] := ha341
          refine gx_vA (.pointer (some ⟨g335, o336, none⟩)) w300 (run_ixaddrN (E := 4) (s := 1) (k := .i64) (c := c91) rfl (by as_aux_lemma => kernel_rfl) (by as_aux_lemma => kernel_rfl) (by as_aux_lemma => kernel_rfl) (fun _ => by kernel_rfl) (ixg_in hx334).1 (lt_len hn109 (ixg_in hx334).2.1) hA338) ?_
          obtain ⟨l342, hx343, hO305⟩ := bind_in hO305
          refine gx_sA (st_setN1 (e := boolE) (ec := [.bool x333]) 0 rfl (by as_aux_lemma => kernel_rfl) (by as_aux_lemma => kernel_rfl) rfl (fun _ => by kernel_rfl) hS301 3 rfl hn109 hf112 hA338 he339 (by decide) (rd_bool true) hx343) ?_
          rintro w344 ⟨vs346, hf347, hS345⟩
          have hS345 : St _ _ w344 [poolE ft51 W52, rowG 30 2 (.slice A43 l42.length c44) l42.length vs45, rowE .u8 33 A64 c65 l63, rowG 4 1 (.slice A90 l86.length c91) l86.length vs346] := hS345
          refine gx_nil ?_
          refine gx_thenN ?_
          refine hK332 _ _ ?_
          refine gx_seq (fun K348 hK349 => ?_)
          refine gx_region ?_
          refine gx_kA (.slice A90 l86.length c91) w344 (gx_kA (.int .i64 x148.2) w344 ?_)
          obtain ⟨x350, hx351, hO305⟩ := bind_in hO305
          obtain ⟨g352, o353, e354, hA355, he356, h357, ha358⟩ := elem_at (e := boolE) (rowG_lies (e := boolE) (hn109.trans (setg_len hx343).symm) (hS345.get 3 rfl)) hf347 hx351 (by decide)
          obtain rfl := h357
          have ha358 : ∀ w', Lies w' A90 vs346 → w'.rangeAt g352 o353 [.bool x350] := ha358
          refine gx_vA (.pointer (some ⟨g352, o353, none⟩)) w344 (run_ixaddrN (E := 4) (s := 1) (k := .i64) (c := c91) rfl (by as_aux_lemma => kernel_rfl) (by as_aux_lemma => kernel_rfl) (by as_aux_lemma => kernel_rfl) (fun _ => by kernel_rfl) (ixg_in hx351).1 (lt_len (hn109.trans (setg_len hx343).symm) (ixg_in hx351).2.1) hA355) ?_
          obtain ⟨l359, hx360, hO305⟩ := bind_in hO305
          refine gx_sA (st_setN1 (e := boolE) (ec := [.bool x350]) 0 rfl (by as_aux_lemma => kernel_rfl) (by as_aux_lemma => kernel_rfl) rfl (fun _ => by kernel_rfl) hS345 3 rfl (hn109.trans (setg_len hx343).symm) hf347 hA355 he356 (by decide) (rd_bool true) hx360) ?_
          rintro w361 ⟨vs363, hf364, hS362⟩
          have hS362 : St _ _ w361 [poolE ft51 W52, rowG 30 2 (.slice A43 l42.length c44) l42.length vs45, rowE .u8 33 A64 c65 l63, rowG 4 1 (.slice A90 l86.length c91) l86.length vs363] := hS362
          refine gx_nil ?_
          refine gx_thenN ?_
          refine hK349 _ _ ?_
          refine gx_seq (fun K365 hK366 => ?_)
          refine gx_region ?_
          refine gx_kA (.int .i64 0) w361 ?_
          refine gx_nil ?_
          refine gx_thenN ?_
          refine hK366 _ _ ?_
          refine gx_block ?_
          refine gx_loop (fun k a w => ∃ (x370 : Int), selfA (fun u369 => ⟨((.slice A0 p0.length c0) :: (.slice A1 p1.length c1) :: (.slice A2 p2.length c2) :: (.int .u8 p3) :: (.int .u8 p4) :: un 5 ((u369 10) :: (.slice A43 l42.length c44) :: (.slice A64 l63.length c65) :: (.int .i64 x66) :: (.slice A90 l86.length c91) :: (.int .i64 x113) :: (.int .i64 x135.1) :: (.int .i64 x148.2) :: (.int .i32 x282) :: (.bool b283) :: (.bool b284) :: (.int .i32 x294) :: (.bool b295) :: (.bool b296) :: (.int .i64 x370) :: undef :: dd u5 26 18 (dd u72 44 7 ((.int .u8 p3) :: (.int .u8 p4) :: dd u72 53 2 ((.int .i64 x66) :: dd u72 56 9 ((u108 65) :: (.int .i64 ((p0.length : Nat) : Int)) :: (u108 67) :: (.int .i64 x113) :: (u163 69) :: (.int .i64 ((l42.length : Nat) : Int)) :: (.bool true) :: dd u108 72 2 ((u163 74) :: (.int .i64 x113) :: dd u163 76 2 ((.int .i64 x135.1) :: (u163 79) :: (.int .i64 x113) :: dd u163 81 2 ((.int .i64 x148.2) :: dd u163 84 64 (dd u302 148 2 ((.int .i64 x135.1) :: (.pointer (Option.map (fun (p : Addr) => p.add (Int.toNat x135.1 * 1)) A0)) :: (.int .i32 x278) :: (u302 153) :: (.int .i32 x282) :: (.bool b283) :: (.bool b284) :: dd u302 157 2 ((.int .i64 x148.2) :: (.pointer (Option.map (fun (p : Addr) => p.add (Int.toNat x148.2 * 1)) A0)) :: (.int .i32 x290) :: (u302 162) :: (.int .i32 x294) :: (.bool b295) :: (.bool b296) :: dd u302 166 18 ((u369 184) :: (.int .i64 x135.1) :: dd u369 186 2 ((.int .i64 x148.2) :: dd u369 189 31 (un 55 ([])))))))))))))))).toArray, []⟩) a ∧ fNests_L2 N l42 x113 x135 x148 l359 k x370 = some c128 ∧ St [] w0 w [poolE ft51 W52, rowG 30 2 (.slice A43 l42.length c44) l42.length vs45, rowE .u8 33 A64 c65 l63, rowG 4 1 (.slice A90 l86.length c91) l86.length vs363]) N ?_ ?_
          ·exact ⟨0, selfA_i (by as_aux_lemma => kernel_rfl), hO305, hS362⟩
          ·rintro k371 _ w367 ⟨x370, hq428, hL372, hS368⟩
           obtain ⟨u369, rfl⟩ := selfA_u hq428
           cases k371 with
           | zero => cases hL372
           | succ k371 =>
            first | rw [fNests_L2] at hL372 | unfold fNests_L2 at hL372
            refine gx_seq (fun K373 hK374 => ?_)
            refine gx_seq (fun K375 hK376 => ?_)
            refine gx_region ?_
            refine gx_kA (.int .i64 x370) w367 (gx_kA (.int .i64 x113) w367 ?_)
            rcases if_in hL372 with ⟨h377, hL372⟩ | ⟨h377, hL372⟩
            ·refine gx_vA (.bool true) w367 (run_boolE (decide_eq_true h377) (by as_aux_lemma => kernel_rfl)) ?_
             refine gx_nil ?_
             refine gx_thenN ?_
             refine hK376 _ _ ?_
             refine gx_yes (by as_aux_lemma => kernel_rfl) ?_
             refine gx_pass ?_
             refine gx_thenN ?_
             refine hK374 _ _ ?_
             refine gx_seq (fun K378 hK379 => ?_)
             refine gx_block ?_
             refine gx_seq (fun K380 hK381 => ?_)
             refine gx_region ?_
             refine gx_kA (.slice A43 l42.length c44) w367 (gx_kA (.int .i64 x370) w367 ?_)
             obtain ⟨x382, hx383, hL372⟩ := bind_in hL372
             obtain ⟨g384, o385, e386, hA387, he388, h389, ha390⟩ := elem_at (e := (pairE (intE .i64) (intE .i64))) (rowG_lies (e := (pairE (intE .i64) (intE .i64))) rfl (hS368.get 1 rfl)) hf58 hx383 (by decide)
             obtain ⟨e391, e392, rfl, h393, h394⟩ := h389
             obtain rfl := h393
             obtain rfl := h394
             have ha390 : ∀ w', Lies w' A43 vs45 → w'.rangeAt g384 o385 [.int .i64 x382.1, .int .i64 x382.2] := ha390
             refine gx_vA (.pointer (some ⟨g384, o385, none⟩)) w367 (run_ixaddrN (E := 30) (s := 2) (k := .i64) (c := c44) rfl (by as_aux_lemma => kernel_rfl) (by as_aux_lemma => kernel_rfl) (by as_aux_lemma => kernel_rfl) (fun _ => by kernel_rfl) (ixg_in hx383).1 (ixg_in hx383).2.1 hA387) ?_
             refine gx_kA (.pointer (some ⟨g384, o385, none⟩)) w367 ?_
             refine gx_vA (.int .i64 x382.1) w367 (run_loadN1 0 rfl (by as_aux_lemma => kernel_rfl) (fun _ => by kernel_rfl) (ha390 _ (rowG_lies (e := (pairE (intE .i64) (intE .i64))) rfl (hS368.get 1 rfl))) rfl) ?_
             refine gx_kA (.int .i64 x135.1) w367 ?_
             rcases if_in hL372 with ⟨h395, hL372⟩ | ⟨h395, hL372⟩
             ·refine gx_vA (.bool true) w367 (run_boolE (decide_eq_true h395) (by as_aux_lemma => kernel_rfl)) ?_
              refine gx_kA (.bool true) w367 (gx_oA (gx_oA (gx_oA (gx_oA (gx_oA (gx_oA (gx_oA ?_)))))))
              refine gx_oA (gx_oA (gx_oA (gx_oA (gx_oA (gx_oA (gx_oA (gx_oA ?_)))))))
              refine gx_oA (gx_kA (.bool true) w367 ?_)
              refine gx_nil ?_
              refine gx_thenN ?_
              refine hK381 _ _ ?_
              refine gx_yes (by as_aux_lemma => kernel_rfl) ?_
              refine gx_seq (fun K396 hK397 => ?_)
              refine gx_region ?_
              refine gx_kA (.bool false) w367 ?_
              refine gx_nil ?_
              refine gx_thenN ?_
              refine hK397 _ _ ?_
              refine gx_ret ?_
              refine gx_blkR ?_
              refine gx_thenR ?_
              refine gx_thenR ?_
              refine gx_blkR ?_
              refine gx_blkR ?_
              refine gx_thenR ?_
              obtain rfl := Option.some.inj hL372
              try dsimp only at hO130
              refine gx_thenR ?_
              refine gx_blkR ?_
              refine gx_thenR ?_
              obtain rfl := Option.some.inj hO130
              try dsimp only at hO103
              obtain rfl := Option.some.inj hO103
              exact gx_fin (.bool false) (by as_aux_lemma => kernel_rfl) (by as_aux_lemma => kernel_rfl) ⟨_, rfl, rfl, (hS368.pick [] rfl rfl)⟩
             ·refine gx_vA (.bool false) w367 (run_boolE (decide_eq_false h395) (by as_aux_lemma => kernel_rfl)) ?_
              refine gx_kA (.bool false) w367 (gx_kA (.slice A43 l42.length c44) w367 (gx_kA (.int .i64 x370) w367 ?_))
              obtain ⟨x398, hx399, hL372⟩ := bind_in hL372
              obtain ⟨g400, o401, e402, hA403, he404, h405, ha406⟩ := elem_at (e := (pairE (intE .i64) (intE .i64))) (rowG_lies (e := (pairE (intE .i64) (intE .i64))) rfl (hS368.get 1 rfl)) hf58 hx399 (by decide)
              obtain ⟨e407, e408, rfl, h409, h410⟩ := h405
              obtain rfl := h409
              obtain rfl := h410
              have ha406 : ∀ w', Lies w' A43 vs45 → w'.rangeAt g400 o401 [.int .i64 x398.1, .int .i64 x398.2] := ha406
              refine gx_vA (.pointer (some ⟨g400, o401, none⟩)) w367 (run_ixaddrN (E := 30) (s := 2) (k := .i64) (c := c44) rfl (by as_aux_lemma => kernel_rfl) (by as_aux_lemma => kernel_rfl) (by as_aux_lemma => kernel_rfl) (fun _ => by kernel_rfl) (ixg_in hx399).1 (ixg_in hx399).2.1 hA403) ?_
              refine gx_kA (.pointer (some ⟨g400, o401 + 1, none⟩)) w367 ?_
              refine gx_vA (.int .i64 x398.2) w367 (run_loadN1 1 rfl (by as_aux_lemma => kernel_rfl) (fun _ => by kernel_rfl) (ha406 _ (rowG_lies (e := (pairE (intE .i64) (intE .i64))) rfl (hS368.get 1 rfl))) rfl) ?_
              refine gx_kA (.int .i64 x135.1) w367 ?_
              rcases if_in hL372 with ⟨h411, hL372⟩ | ⟨h411, hL372⟩
              ·refine gx_vA (.bool true) w367 (run_boolE (decide_eq_true h411) (by as_aux_lemma => kernel_rfl)) ?_
               refine gx_kA (.bool true) w367 (gx_kA (.slice A43 l42.length c44) w367 (gx_kA (.int .i64 x370) w367 ?_))
               obtain ⟨x412, hx413, hL372⟩ := bind_in hL372
               obtain ⟨g414, o415, e416, hA417, he418, h419, ha420⟩ := elem_at (e := (pairE (intE .i64) (intE .i64))) (rowG_lies (e := (pairE (intE .i64) (intE .i64))) rfl (hS368.get 1 rfl)) hf58 hx413 (by decide)
               obtain ⟨e421, e422, rfl, h423, h424⟩ := h419
               obtain rfl := h423
               obtain rfl := h424
               have ha420 : ∀ w', Lies w' A43 vs45 → w'.rangeAt g414 o415 [.int .i64 x412.1, .int .i64 x412.2] := ha420
               refine gx_vA (.pointer (some ⟨g414, o415, none⟩)) w367 (run_ixaddrN (E := 30) (s := 2) (k := .i64) (c := c44) rfl (by as_aux_lemma => kernel_rfl) (by as_aux_lemma => kernel_rfl) (by as_aux_lemma => kernel_rfl) (fun _ => by kernel_rfl) (ixg_in hx413).1 (ixg_in hx413).2.1 hA417) ?_
               refine gx_kA (.pointer (some ⟨g414, o415 + 1, none⟩)) w367 ?_
               refine gx_vA (.int .i64 x412.2) w367 (run_loadN1 1 rfl (by as_aux_lemma => kernel_rfl) (fun _ => by kernel_rfl) (ha420 _ (rowG_lies (e := (pairE (intE .i64) (intE .i64))) rfl (hS368.get 1 rfl))) rfl) ?_
               refine gx_kA (.int .i64 x148.2) w367 ?_
               rcases if_in hL372 with ⟨h425, hL372⟩ | ⟨h425, hL372⟩
               ·refine gx_vA (.bool true) w367 (run_boolE (decide_eq_true h425) (by as_aux_lemma => kernel_rfl)) ?_
                refine gx_kA (.bool true) w367 (gx_kA (.bool true) w367 ?_)
                refine gx_nil ?_
                refine gx_thenN ?_
                refine hK381 _ _ ?_
                refine gx_yes (by as_aux_lemma => kernel_rfl) ?_
                refine gx_seq (fun K426 hK427 => ?_)
                refine gx_region ?_
                refine gx_kA (.bool false) w367 ?_
                refine gx_nil ?_
                refine gx_thenN ?_
                refine hK427 _ _ ?_
                refine gx_ret ?_
                refine gx_blkR ?_
                refine gx_thenR ?_
                refine gx_thenR ?_
                refine gx_blkR ?_
                refine gx_blkR ?_
                refine gx_thenR ?_
                obtain rfl := Option.some.inj hL372
                try dsimp only at hO130
                refine gx_thenR ?_
                refine gx_blkR ?_
                refine gx_thenR ?_
                obtain rfl := Option.some.inj hO130
                try dsimp only at hO103
                obtain rfl := Option.some.inj hO103
                exact gx_fin (.bool false) (by as_aux_lemma => kernel_rfl) (by as_aux_lemma => kernel_rfl) ⟨_, rfl, rfl, (hS368.pick [] rfl rfl)⟩
               ·refine gx_vA (.bool false) w367 (run_boolE (decide_eq_false h425) (by as_aux_lemma => kernel_rfl)) ?_
                refine gx_kA (.bool false) w367 (gx_kA (.bool false) w367 ?_)
                refine gx_nil ?_
                refine gx_thenN ?_
                refine hK381 _ _ ?_
                refine gx_no (by as_aux_lemma => kernel_rfl) ?_
                refine gx_pass ?_
                refine gx_blkN ?_
                refine gx_thenN ?_
                refine hK379 _ _ ?_
                refine gx_region ?_
                refine gx_kA (.int .i64 x370) w367 (gx_kA (.int .i64 (IntKind.i64.wrap (x370 + 1))) w367 (gx_kA (.int .i64 (IntKind.i64.wrap (x370 + 1))) w367 ?_))
                refine gx_nil ?_
                refine gx_thenN ?_
                exact ⟨k371, Nat.lt_succ_self k371, (IntKind.i64.wrap (x370 + 1)), selfA_i (by as_aux_lemma => kernel_rfl), hL372, hS368⟩
              ·refine gx_vA (.bool false) w367 (run_boolE (decide_eq_false h411) (by as_aux_lemma => kernel_rfl)) ?_
               refine gx_kA (.bool false) w367 (gx_oA (gx_oA (gx_oA (gx_oA (gx_oA (gx_oA (gx_oA ?_)))))))
               refine gx_kA (.bool false) w367 (gx_kA (.bool false) w367 ?_)
               refine gx_nil ?_
               refine gx_thenN ?_
               refine hK381 _ _ ?_
               refine gx_no (by as_aux_lemma => kernel_rfl) ?_
               refine gx_pass ?_
               refine gx_blkN ?_
               refine gx_thenN ?_
               refine hK379 _ _ ?_
               refine gx_region ?_
               refine gx_kA (.int .i64 x370) w367 (gx_kA (.int .i64 (IntKind.i64.wrap (x370 + 1))) w367 (gx_kA (.int .i64 (IntKind.i64.wrap (x370 + 1))) w367 ?_))
               refine gx_nil ?_
               refine gx_thenN ?_
               exact ⟨k371, Nat.lt_succ_self k371, (IntKind.i64.wrap (x370 + 1)), selfA_i (by as_aux_lemma => kernel_rfl), hL372, hS368⟩
            ·refine gx_vA (.bool false) w367 (run_boolE (decide_eq_false h377) (by as_aux_lemma => kernel_rfl)) ?_
             refine gx_nil ?_
             refine gx_thenN ?_
             refine hK376 _ _ ?_
             refine gx_no (by as_aux_lemma => kernel_rfl) ?_
             refine gx_exit ?_
             refine gx_thenE ?_
             refine gx_thenE ?_
             refine gx_blkE ?_
             refine gx_blkN ?_
             refine gx_thenN ?_
             exact ⟨l359, vs363, selfA_i (by as_aux_lemma => kernel_rfl), (Option.some.inj hL372), hS368, hf364, ((hn109.trans (setg_len hx343).symm).trans (setg_len hx360).symm)⟩
       ·rintro _ w121 ⟨l125, vs126, hq431, rfl, hS122, hf127, hn124⟩
        obtain ⟨u123, rfl⟩ := selfA_u hq431
        try dsimp only at hO130
        refine gx_region ?_
        refine gx_kA (.int .i64 x113) w121 (gx_kA (.int .i64 (IntKind.i64.wrap (x113 + 1))) w121 (gx_kA (.int .i64 (IntKind.i64.wrap (x113 + 1))) w121 ?_))
        refine gx_nil ?_
        refine gx_thenN ?_
        exact ⟨k114, Nat.lt_succ_self k114, l125, (IntKind.i64.wrap (x113 + 1)), vs126, selfA_i (by as_aux_lemma => kernel_rfl), hO130, hS122, hf127, hn124⟩
      ·refine gx_vA (.bool false) w106 (run_boolE (decide_eq_false h120) (by as_aux_lemma => kernel_rfl)) ?_
       refine gx_nil ?_
       refine gx_thenN ?_
       refine hK119 _ _ ?_
       refine gx_no (by as_aux_lemma => kernel_rfl) ?_
       refine gx_exit ?_
       refine gx_thenE ?_
       refine gx_thenE ?_
       refine gx_blkE ?_
       refine gx_thenN ?_
       exact ⟨l110, vs111, selfA_i (by as_aux_lemma => kernel_rfl), (Option.some.inj hL115), (hS107.pick [0, 2, 3] rfl rfl), hf112, hn109⟩
   ·rintro _ w94 ⟨l98, vs99, hq527, rfl, hS95, hf100, hn97⟩
    obtain ⟨u96, rfl⟩ := selfA_u hq527
    try dsimp only at hO103
    obtain ⟨c436, hE437, hO438⟩ := bind_in hO103
    refine gx_cut (fun a w => selfA (fun u435 => ⟨(dd u435 0 3 ((.int .u8 p3) :: (.int .u8 p4) :: un 5 ((u435 10) :: (u96 11) :: (u435 12) :: (.int .i64 x66) :: (u435 14) :: dd u96 15 10 ((u435 25) :: dd u5 26 18 (dd u72 44 7 ((.int .u8 p3) :: (.int .u8 p4) :: dd u72 53 2 ((.int .i64 x66) :: dd u72 56 9 ((u96 65) :: (.int .i64 ((p0.length : Nat) : Int)) :: dd u96 67 153 (dd u435 220 54 (undef :: [])))))))))).toArray, []⟩) a ∧ Ctl.go () = c436 ∧ St [] w0 w [poolE ft51 W52]) ?_ ?_
    ·refine gx_seq (fun K439 hK440 => ?_)
     refine gx_region ?_
     refine gx_kA (.int .i64 0) w94 ?_
     refine gx_nil ?_
     refine gx_thenN ?_
     refine hK440 _ _ ?_
     refine gx_block ?_
     refine gx_loop (fun k a w => ∃ (x444 : Int), selfA (fun u443 => ⟨((.slice A0 p0.length c0) :: (.slice A1 p1.length c1) :: (.slice A2 p2.length c2) :: (.int .u8 p3) :: (.int .u8 p4) :: un 5 ((u443 10) :: (u96 11) :: (.slice A64 l63.length c65) :: (.int .i64 x66) :: (.slice A90 l86.length c91) :: dd u96 15 10 ((.int .i64 x444) :: dd u5 26 18 (dd u72 44 7 ((.int .u8 p3) :: (.int .u8 p4) :: dd u72 53 2 ((.int .i64 x66) :: dd u72 56 9 ((u96 65) :: (.int .i64 ((p0.length : Nat) : Int)) :: dd u96 67 153 (dd u443 220 54 (undef :: []))))))))).toArray, []⟩) a ∧ fNests_L3 N p0 p1 p2 l63 l98 k x444 = some c436 ∧ St [] w0 w [poolE ft51 W52, rowE .u8 33 A64 c65 l63, rowG 4 1 (.slice A90 l86.length c91) l86.length vs99]) N ?_ ?_
     ·exact ⟨0, selfA_i (by as_aux_lemma => kernel_rfl), hE437, hS95⟩
     ·rintro k445 _ w441 ⟨x444, hq517, hL446, hS442⟩
      obtain ⟨u443, rfl⟩ := selfA_u hq517
      cases k445 with
      | zero => cases hL446
      | succ k445 =>
       first | rw [fNests_L3] at hL446 | unfold fNests_L3 at hL446
       refine gx_seq (fun K447 hK448 => ?_)
       refine gx_seq (fun K449 hK450 => ?_)
       refine gx_region ?_
       refine gx_kA (.int .i64 x444) w441 (gx_kA (.slice A0 p0.length c0) w441 (gx_kA (.int .i64 ((p0.length : Nat) : Int)) w441 ?_))
       rcases if_in hL446 with ⟨h451, hL446⟩ | ⟨h451, hL446⟩
       ·refine gx_vA (.bool true) w441 (run_boolE (decide_eq_true h451) (by as_aux_lemma => kernel_rfl)) ?_
        refine gx_nil ?_
        refine gx_thenN ?_
        refine hK450 _ _ ?_
        refine gx_yes (by as_aux_lemma => kernel_rfl) ?_
        refine gx_pass ?_
        refine gx_thenN ?_
        refine hK448 _ _ ?_
        refine gx_seq (fun K452 hK453 => ?_)
        refine gx_block ?_
        refine gx_seq (fun K454 hK455 => ?_)
        refine gd_start (fun w => St [] w0 w [poolE ft51 W52, rowE .u8 33 A64 c65 l63, rowG 4 1 (.slice A90 l86.length c91) l86.length vs99]) 48 #[false, false, false, false, false, false, false, false, false, false, false, false, false, false, false, false, false, false, false, false, false, false, false, false, false, false, false, false, false, false, false, false, false, false, false, false, false, false, false, false, false, false, false, false, false, false, false, false] (by as_aux_lemma => kernel_rfl) (by as_aux_lemma => kernel_rfl) ?_
        have hS457 := hS442.drew
        generalize w441.drew = w456 at hS457 ⊢
        refine gv1 0 226 (.slice A64 l63.length c65) rfl hS457 ?_
        refine gv1 1 227 (.int .i64 x444) rfl hS457 ?_
        obtain ⟨x458, hx459, hL446⟩ := bind_in hL446
        refine gu1 2 228 (.pointer (Option.map (fun (p : Addr) => p.add (Int.toNat x444 * 1)) A64)) rfl hS457 (fun w hSw => run_ixaddr (E := 33) (s := 1) (k := .i64) (c := c65) rfl (by as_aux_lemma => kernel_rfl) (by as_aux_lemma => kernel_rfl) (by as_aux_lemma => kernel_rfl) (fun _ => by kernel_rfl) (ix_in hx459).1 (ix_in hx459).2.1 (num_nil (hS457.row 1 rfl).1)) ?_
        refine gu1 3 229 (.int .u8 x458) rfl hS457 (fun w hSw => run_loadix rfl (by as_aux_lemma => kernel_rfl) (fun _ => by kernel_rfl) (hSw.row 1 rfl).1 hx459) ?_
        refine gv1 4 230 (.slice A2 p2.length c2) rfl hS457 ?_
        refine gv1 5 231 (.int .i64 x444) rfl hS457 ?_
        obtain ⟨x460, hx461, hL446⟩ := bind_in hL446
        refine gu1 6 232 (.pointer (Option.map (fun (p : Addr) => p.add (Int.toNat x444 * 1)) A2)) rfl hS457 (fun w hSw => run_ixaddr (E := 33) (s := 1) (k := .i64) (c := c2) rfl (by as_aux_lemma => kernel_rfl) (by as_aux_lemma => kernel_rfl) (by as_aux_lemma => kernel_rfl) (fun _ => by kernel_rfl) (ix_in hx461).1 (ix_in hx461).2.1 (num_nil (hS457.view hv2))) ?_
        refine gu1 7 233 (.int .u8 x460) rfl hS457 (fun w hSw => run_loadix rfl (by as_aux_lemma => kernel_rfl) (fun _ => by kernel_rfl) (hSw.view hv2) hx461) ?_
        obtain ⟨c466, hE467, hO468⟩ := bind_in hL446
        refine gd_mid (fun a w => ∃ (b465 : Bool), selfA (fun u464 => ⟨((.slice A0 p0.length c0) :: (.slice A1 p1.length c1) :: (.slice A2 p2.length c2) :: (.int .u8 p3) :: (.int .u8 p4) :: un 5 ((u443 10) :: (u96 11) :: (.slice A64 l63.length c65) :: (.int .i64 x66) :: (.slice A90 l86.length c91) :: dd u96 15 10 ((.int .i64 x444) :: dd u5 26 18 (dd u72 44 7 ((.int .u8 p3) :: (.int .u8 p4) :: dd u72 53 2 ((.int .i64 x66) :: dd u72 56 9 ((u96 65) :: (.int .i64 ((p0.length : Nat) : Int)) :: dd u96 67 153 ((.int .i64 x444) :: (u464 221) :: (.int .i64 ((p0.length : Nat) : Int)) :: (.bool true) :: dd u443 224 2 ((u464 226) :: (.int .i64 x444) :: (.pointer (Option.map (fun (p : Addr) => p.add (Int.toNat x444 * 1)) A64)) :: (.int .u8 x458) :: (u464 230) :: (.int .i64 x444) :: (.pointer (Option.map (fun (p : Addr) => p.add (Int.toNat x444 * 1)) A2)) :: (.int .u8 x460) :: dd u464 234 7 ((.bool b465) :: dd u443 242 32 (undef :: []))))))))))).toArray, []⟩) a ∧ b465 = c466 ∧ St [] w0 w [poolE ft51 W52, rowE .u8 33 A64 c65 l63, rowG 4 1 (.slice A90 l86.length c91) l86.length vs99]) 32 #[true, true, true, true, true, true, true, true, true, true, true, true, true, true, true, true, false, false, false, false, false, false, false, false, false, false, false, false, false, false, false, false, false, false, false, false, false, false, false, false, false, false, false, false, false, false, false, false] ?_ ?_
        ·rintro _ w462 ⟨b465, hq469, rfl, hS463⟩
         obtain ⟨u464, rfl⟩ := selfA_u hq469
         try dsimp only at hO468
         obtain ⟨c485, hE486, hO487⟩ := bind_in hO468
         refine gd_mid (fun a w => ∃ (b484 : Bool), selfA (fun u483 => ⟨((.slice A0 p0.length c0) :: (.slice A1 p1.length c1) :: (.slice A2 p2.length c2) :: (.int .u8 p3) :: (.int .u8 p4) :: un 5 ((u443 10) :: (u96 11) :: (.slice A64 l63.length c65) :: (.int .i64 x66) :: (.slice A90 l86.length c91) :: dd u96 15 10 ((.int .i64 x444) :: dd u5 26 18 (dd u72 44 7 ((.int .u8 p3) :: (.int .u8 p4) :: dd u72 53 2 ((.int .i64 x66) :: dd u72 56 9 ((u96 65) :: (.int .i64 ((p0.length : Nat) : Int)) :: dd u96 67 153 ((.int .i64 x444) :: (u464 221) :: (.int .i64 ((p0.length : Nat) : Int)) :: (.bool true) :: dd u443 224 2 ((u464 226) :: (.int .i64 x444) :: (.pointer (Option.map (fun (p : Addr) => p.add (Int.toNat x444 * 1)) A64)) :: (.int .u8 x458) :: (u464 230) :: (.int .i64 x444) :: (.pointer (Option.map (fun (p : Addr) => p.add (Int.toNat x444 * 1)) A2)) :: (.int .u8 x460) :: dd u464 234 7 ((.bool b465) :: dd u483 242 6 ((.bool b484) :: dd u443 249 25 (undef :: [])))))))))))).toArray, []⟩) a ∧ b484 = c485 ∧ St [] w0 w [poolE ft51 W52, rowE .u8 33 A64 c65 l63, rowG 4 1 (.slice A90 l86.length c91) l86.length vs99]) 25 #[true, true, true, true, true, true, true, true, true, true, true, true, true, true, true, true, true, true, true, true, true, true, true, false, false, false, false, false, false, false, false, false, false, false, false, false, false, false, false, false, false, false, false, false, false, false, false, false] ?_ ?_
         ·rintro _ w481 ⟨b484, hq488, rfl, hS482⟩
          obtain ⟨u483, rfl⟩ := selfA_u hq488
          try dsimp only at hO487
          refine gv1 23 249 (.bool b484) rfl hS482 ?_
          cases b484 with
          | true =>
           try dsimp only at hO487
           refine gz1 24 250 rfl hS482 ?_
           refine gz1 25 251 rfl hS482 ?_
           refine gz1 26 252 rfl hS482 ?_
           refine gz1 27 253 rfl hS482 ?_
           refine gz1 28 254 rfl hS482 ?_
           refine gz1 29 255 rfl hS482 ?_
           refine gz1 30 256 rfl hS482 ?_
           refine gz1 31 257 rfl hS482 ?_
           refine gz1 32 258 rfl hS482 ?_
           refine gz1 33 259 rfl hS482 ?_
           refine gz1 34 260 rfl hS482 ?_
           refine gz1 35 261 rfl hS482 ?_
           refine gz1 36 262 rfl hS482 ?_
           refine gz1 37 263 rfl hS482 ?_
           refine gz1 38 264 rfl hS482 ?_
           refine gz1 39 265 rfl hS482 ?_
           refine gz1 40 266 rfl hS482 ?_
           refine gz1 41 267 rfl hS482 ?_
           refine gz1 42 268 rfl hS482 ?_
           refine gz1 43 269 rfl hS482 ?_
           refine gz1 44 270 rfl hS482 ?_
           refine gz1 45 271 rfl hS482 ?_
           refine gz1 46 272 rfl hS482 ?_
           refine gv1 47 273 (.bool true) rfl hS482 ?_
           refine gd_done (by as_aux_lemma => kernel_rfl) ?_
           refine gx_thenN ?_
           refine hK455 _ _ ?_
           refine gx_yes (by as_aux_lemma => kernel_rfl) ?_
           refine gx_seq (fun K493 hK494 => ?_)
           refine gx_region ?_
           refine gx_kA (.bool false) w481 ?_
           refine gx_nil ?_
           refine gx_thenN ?_
           refine hK494 _ _ ?_
           refine gx_ret ?_
           refine gx_blkR ?_
           refine gx_thenR ?_
           refine gx_thenR ?_
           refine gx_blkR ?_
           refine gx_thenR ?_
           obtain rfl := Option.some.inj hO487
           try dsimp only at hO438
           obtain rfl := Option.some.inj hO438
           exact gx_fin (.bool false) (by as_aux_lemma => kernel_rfl) (by as_aux_lemma => kernel_rfl) ⟨_, rfl, rfl, (hS482.pick [] rfl rfl)⟩
          | false =>
           try dsimp only at hO487
           refine gv1 24 250 (.slice A64 l63.length c65) rfl hS482 ?_
           refine gv1 25 251 (.int .i64 x444) rfl hS482 ?_
           obtain ⟨x495, hx496, hO487⟩ := bind_in hO487
           refine gu1 26 252 (.pointer (Option.map (fun (p : Addr) => p.add (Int.toNat x444 * 1)) A64)) rfl hS482 (fun w hSw => run_ixaddr (E := 33) (s := 1) (k := .i64) (c := c65) rfl (by as_aux_lemma => kernel_rfl) (by as_aux_lemma => kernel_rfl) (by as_aux_lemma => kernel_rfl) (fun _ => by kernel_rfl) (ix_in hx496).1 (ix_in hx496).2.1 (num_nil (hS482.row 1 rfl).1)) ?_
           refine gu1 27 253 (.int .u8 x495) rfl hS482 (fun w hSw => run_loadix rfl (by as_aux_lemma => kernel_rfl) (fun _ => by kernel_rfl) (hSw.row 1 rfl).1 hx496) ?_
           refine gv1 28 254 (.slice A2 p2.length c2) rfl hS482 ?_
           refine gv1 29 255 (.int .i64 x444) rfl hS482 ?_
           obtain ⟨x497, hx498, hO487⟩ := bind_in hO487
           refine gu1 30 256 (.pointer (Option.map (fun (p : Addr) => p.add (Int.toNat x444 * 1)) A2)) rfl hS482 (fun w hSw => run_ixaddr (E := 33) (s := 1) (k := .i64) (c := c2) rfl (by as_aux_lemma => kernel_rfl) (by as_aux_lemma => kernel_rfl) (by as_aux_lemma => kernel_rfl) (fun _ => by kernel_rfl) (ix_in hx498).1 (ix_in hx498).2.1 (num_nil (hS482.view hv2))) ?_
           refine gu1 31 257 (.int .u8 x497) rfl hS482 (fun w hSw => run_loadix rfl (by as_aux_lemma => kernel_rfl) (fun _ => by kernel_rfl) (hSw.view hv2) hx498) ?_
           obtain ⟨c503, hE504, hO505⟩ := bind_in hO487
           refine gd_mid (fun a w => ∃ (b502 : Bool), selfA (fun u501 => ⟨((.slice A0 p0.length c0) :: (.slice A1 p1.length c1) :: (.slice A2 p2.length c2) :: (.int .u8 p3) :: (.int .u8 p4) :: un 5 ((u443 10) :: (u96 11) :: (.slice A64 l63.length c65) :: (.int .i64 x66) :: (.slice A90 l86.length c91) :: dd u96 15 10 ((.int .i64 x444) :: dd u5 26 18 (dd u72 44 7 ((.int .u8 p3) :: (.int .u8 p4) :: dd u72 53 2 ((.int .i64 x66) :: dd u72 56 9 ((u96 65) :: (.int .i64 ((p0.length : Nat) : Int)) :: dd u96 67 153 ((.int .i64 x444) :: (u464 221) :: (.int .i64 ((p0.length : Nat) : Int)) :: (.bool true) :: dd u443 224 2 ((u464 226) :: (.int .i64 x444) :: (.pointer (Option.map (fun (p : Addr) => p.add (Int.toNat x444 * 1)) A64)) :: (.int .u8 x458) :: (u464 230) :: (.int .i64 x444) :: (.pointer (Option.map (fun (p : Addr) => p.add (Int.toNat x444 * 1)) A2)) :: (.int .u8 x460) :: dd u464 234 7 ((.bool b465) :: dd u483 242 6 ((.bool false) :: (.bool false) :: (u501 250) :: (.int .i64 x444) :: (.pointer (Option.map (fun (p : Addr) => p.add (Int.toNat x444 * 1)) A64)) :: (.int .u8 x495) :: (u501 254) :: (.int .i64 x444) :: (.pointer (Option.map (fun (p : Addr) => p.add (Int.toNat x444 * 1)) A2)) :: (.int .u8 x497) :: dd u501 258 7 ((.bool b502) :: dd u443 266 8 (undef :: []))))))))))))).toArray, []⟩) a ∧ b502 = c503 ∧ St [] w0 w [poolE ft51 W52, rowE .u8 33 A64 c65 l63, rowG 4 1 (.slice A90 l86.length c91) l86.length vs99]) 8 #[true, true, true, true, true, true, true, true, true, true, true, true, true, true, true, true, true, true, true, true, true, true, true, true, true, true, true, true, true, true, true, true, true, true, true, true, true, true, true, true, false, false, false, false, false, false, false, false] ?_ ?_
           ·rintro _ w499 ⟨b502, hq506, rfl, hS500⟩
            obtain ⟨u501, rfl⟩ := selfA_u hq506
            try dsimp only at hO505
            refine gv1 40 266 (.bool b502) rfl hS500 ?_
            cases b502 with
            | true =>
             try dsimp only at hO505
             refine gv1 41 267 (.slice A64 l63.length c65) rfl hS500 ?_
             refine gv1 42 268 (.int .i64 x444) rfl hS500 ?_
             obtain ⟨x512, hx513, hO505⟩ := bind_in hO505
             refine gu1 43 269 (.pointer (Option.map (fun (p : Addr) => p.add (Int.toNat x444 * 1)) A64)) rfl hS500 (fun w hSw => run_ixaddr (E := 33) (s := 1) (k := .i64) (c := c65) rfl (by as_aux_lemma => kernel_rfl) (by as_aux_lemma => kernel_rfl) (by as_aux_lemma => kernel_rfl) (fun _ => by kernel_rfl) (ix_in hx513).1 (ix_in hx513).2.1 (num_nil (hS500.row 1 rfl).1)) ?_
             refine gu1 44 270 (.int .u8 x512) rfl hS500 (fun w hSw => run_loadix rfl (by as_aux_lemma => kernel_rfl) (fun _ => by kernel_rfl) (hSw.row 1 rfl).1 hx513) ?_
             rcases if_in hO505 with ⟨h514, hO505⟩ | ⟨h514, hO505⟩
             ·refine gu1 45 271 (.bool true) rfl hS500 (fun w hSw => run_boolE (ne_yes h514) (by as_aux_lemma => kernel_rfl)) ?_
              refine gv1 46 272 (.bool true) rfl hS500 ?_
              refine gv1 47 273 (.bool true) rfl hS500 ?_
              refine gd_done (by as_aux_lemma => kernel_rfl) ?_
              refine gx_thenN ?_
              refine hK455 _ _ ?_
              refine gx_yes (by as_aux_lemma => kernel_rfl) ?_
              refine gx_seq (fun K515 hK516 => ?_)
              refine gx_region ?_
              refine gx_kA (.bool false) w499 ?_
              refine gx_nil ?_
              refine gx_thenN ?_
              refine hK516 _ _ ?_
              refine gx_ret ?_
              refine gx_blkR ?_
              refine gx_thenR ?_
              refine gx_thenR ?_
              refine gx_blkR ?_
              refine gx_thenR ?_
              obtain rfl := Option.some.inj hO505
              try dsimp only at hO438
              obtain rfl := Option.some.inj hO438
              exact gx_fin (.bool false) (by as_aux_lemma => kernel_rfl) (by as_aux_lemma => kernel_rfl) ⟨_, rfl, rfl, (hS500.pick [] rfl rfl)⟩
             ·refine gu1 45 271 (.bool false) rfl hS500 (fun w hSw => run_boolE (ne_no h514) (by as_aux_lemma => kernel_rfl)) ?_
              refine gv1 46 272 (.bool false) rfl hS500 ?_
              refine gv1 47 273 (.bool false) rfl hS500 ?_
              refine gd_done (by as_aux_lemma => kernel_rfl) ?_
              refine gx_thenN ?_
              refine hK455 _ _ ?_
              refine gx_no (by as_aux_lemma => kernel_rfl) ?_
              refine gx_pass ?_
              refine gx_blkN ?_
              refine gx_thenN ?_
              refine hK453 _ _ ?_
              refine gx_region ?_
              refine gx_kA (.int .i64 x444) w499 (gx_kA (.int .i64 (IntKind.i64.wrap (x444 + 1))) w499 (gx_kA (.int .i64 (IntKind.i64.wrap (x444 + 1))) w499 ?_))
              refine gx_nil ?_
              refine gx_thenN ?_
              exact ⟨k445, Nat.lt_succ_self k445, (IntKind.i64.wrap (x444 + 1)), selfA_i (by as_aux_lemma => kernel_rfl), hO505, hS500⟩
            | false =>
             try dsimp only at hO505
             refine gz1 41 267 rfl hS500 ?_
             refine gz1 42 268 rfl hS500 ?_
             refine gz1 43 269 rfl hS500 ?_
             refine gz1 44 270 rfl hS500 ?_
             refine gz1 45 271 rfl hS500 ?_
             refine gv1 46 272 (.bool false) rfl hS500 ?_
             refine gv1 47 273 (.bool false) rfl hS500 ?_
             refine gd_done (by as_aux_lemma => kernel_rfl) ?_
             refine gx_thenN ?_
             refine hK455 _ _ ?_
             refine gx_no (by as_aux_lemma => kernel_rfl) ?_
             refine gx_pass ?_
             refine gx_blkN ?_
             refine gx_thenN ?_
             refine hK453 _ _ ?_
             refine gx_region ?_
             refine gx_kA (.int .i64 x444) w499 (gx_kA (.int .i64 (IntKind.i64.wrap (x444 + 1))) w499 (gx_kA (.int .i64 (IntKind.i64.wrap (x444 + 1))) w499 ?_))
             refine gx_nil ?_
             refine gx_thenN ?_
             exact ⟨k445, Nat.lt_succ_self k445, (IntKind.i64.wrap (x444 + 1)), selfA_i (by as_aux_lemma => kernel_rfl), hO505, hS500⟩
           ·intro hK507
            rcases if_in hE504 with ⟨h508, hE504⟩ | ⟨h508, hE504⟩
            ·refine gu1 32 258 (.bool true) rfl hS482 (fun w hSw => run_boolE (ne_yes h508) (by as_aux_lemma => kernel_rfl)) ?_
             refine gv1 33 259 (.bool true) rfl hS482 ?_
             refine gv1 34 260 (.slice A64 l63.length c65) rfl hS482 ?_
             refine gv1 35 261 (.int .i64 x444) rfl hS482 ?_
             obtain ⟨x509, hx510, hE504⟩ := bind_in hE504
             refine gu1 36 262 (.pointer (Option.map (fun (p : Addr) => p.add (Int.toNat x444 * 1)) A64)) rfl hS482 (fun w hSw => run_ixaddr (E := 33) (s := 1) (k := .i64) (c := c65) rfl (by as_aux_lemma => kernel_rfl) (by as_aux_lemma => kernel_rfl) (by as_aux_lemma => kernel_rfl) (fun _ => by kernel_rfl) (ix_in hx510).1 (ix_in hx510).2.1 (num_nil (hS482.row 1 rfl).1)) ?_
             refine gu1 37 263 (.int .u8 x509) rfl hS482 (fun w hSw => run_loadix rfl (by as_aux_lemma => kernel_rfl) (fun _ => by kernel_rfl) (hSw.row 1 rfl).1 hx510) ?_
             rcases if_in hE504 with ⟨h511, hE504⟩ | ⟨h511, hE504⟩
             ·refine gu1 38 264 (.bool true) rfl hS482 (fun w hSw => run_boolE (ne_yes h511) (by as_aux_lemma => kernel_rfl)) ?_
              refine gv1 39 265 (.bool true) rfl hS482 ?_
              exact gd_to hK507 (by as_aux_lemma => kernel_rfl) ⟨true, selfA_i (by as_aux_lemma => kernel_rfl), (Option.some.inj hE504), hS482⟩
             ·refine gu1 38 264 (.bool false) rfl hS482 (fun w hSw => run_boolE (ne_no h511) (by as_aux_lemma => kernel_rfl)) ?_
              refine gv1 39 265 (.bool false) rfl hS482 ?_
              exact gd_to hK507 (by as_aux_lemma => kernel_rfl) ⟨false, selfA_i (by as_aux_lemma => kernel_rfl), (Option.some.inj hE504), hS482⟩
            ·refine gu1 32 258 (.bool false) rfl hS482 (fun w hSw => run_boolE (ne_no h508) (by as_aux_lemma => kernel_rfl)) ?_
             refine gv1 33 259 (.bool false) rfl hS482 ?_
             refine gz1 34 260 rfl hS482 ?_
             refine gz1 35 261 rfl hS482 ?_
             refine gz1 36 262 rfl hS482 ?_
             refine gz1 37 263 rfl hS482 ?_
             refine gz1 38 264 rfl hS482 ?_
             refine gv1 39 265 (.bool false) rfl hS482 ?_
             exact gd_to hK507 (by as_aux_lemma => kernel_rfl) ⟨false, selfA_i (by as_aux_lemma => kernel_rfl), (Option.some.inj hE504), hS482⟩
         ·intro hK489
          refine gv1 16 242 (.bool b465) rfl hS463 ?_
          cases b465 with
          | true =>
           try dsimp only at hE486
           refine gv1 17 243 (.slice A1 p1.length c1) rfl hS463 ?_
           refine gv1 18 244 (.int .i64 x444) rfl hS463 ?_
           obtain ⟨x490, hx491, hE486⟩ := bind_in hE486
           refine gu1 19 245 (.pointer (Option.map (fun (p : Addr) => p.add (Int.toNat x444 * 1)) A1)) rfl hS463 (fun w hSw => run_ixaddr (E := 33) (s := 1) (k := .i64) (c := c1) rfl (by as_aux_lemma => kernel_rfl) (by as_aux_lemma => kernel_rfl) (by as_aux_lemma => kernel_rfl) (fun _ => by kernel_rfl) (ix_in hx491).1 (ix_in hx491).2.1 (num_nil (hS463.view hv1))) ?_
           refine gu1 20 246 (.int .u8 x490) rfl hS463 (fun w hSw => run_loadix rfl (by as_aux_lemma => kernel_rfl) (fun _ => by kernel_rfl) (hSw.view hv1) hx491) ?_
           rcases if_in hE486 with ⟨h492, hE486⟩ | ⟨h492, hE486⟩
           ·refine gu1 21 247 (.bool true) rfl hS463 (fun w hSw => run_boolE (ne_yes h492) (by as_aux_lemma => kernel_rfl)) ?_
            refine gv1 22 248 (.bool true) rfl hS463 ?_
            exact gd_to hK489 (by as_aux_lemma => kernel_rfl) ⟨true, selfA_i (by as_aux_lemma => kernel_rfl), (Option.some.inj hE486), hS463⟩
           ·refine gu1 21 247 (.bool false) rfl hS463 (fun w hSw => run_boolE (ne_no h492) (by as_aux_lemma => kernel_rfl)) ?_
            refine gv1 22 248 (.bool false) rfl hS463 ?_
            exact gd_to hK489 (by as_aux_lemma => kernel_rfl) ⟨false, selfA_i (by as_aux_lemma => kernel_rfl), (Option.some.inj hE486), hS463⟩
          | false =>
           try dsimp only at hE486
           refine gz1 17 243 rfl hS463 ?_
           refine gz1 18 244 rfl hS463 ?_
           refine gz1 19 245 rfl hS463 ?_
           refine gz1 20 246 rfl hS463 ?_
           refine gz1 21 247 rfl hS463 ?_
           refine gv1 22 248 (.bool false) rfl hS463 ?_
           exact gd_to hK489 (by as_aux_lemma => kernel_rfl) ⟨false, selfA_i (by as_aux_lemma => kernel_rfl), (Option.some.inj hE486), hS463⟩
        ·intro hK470
         rcases if_in hE467 with ⟨h471, hE467⟩ | ⟨h471, hE467⟩
         ·refine gu1 8 234 (.bool true) rfl hS457 (fun w hSw => run_boolE (ne_yes h471) (by as_aux_lemma => kernel_rfl)) ?_
          refine gv1 9 235 (.bool true) rfl hS457 ?_
          refine gv1 10 236 (.slice A90 l86.length c91) rfl hS457 ?_
          refine gv1 11 237 (.int .i64 x444) rfl hS457 ?_
          obtain ⟨x472, hx473, hE467⟩ := bind_in hE467
          obtain ⟨g474, o475, e476, hA477, he478, h479, ha480⟩ := elem_at (e := boolE) (rowG_lies (e := boolE) hn97 (hS457.get 2 rfl)) hf100 hx473 (by decide)
          obtain rfl := h479
          have ha480 : ∀ w', Lies w' A90 vs99 → w'.rangeAt g474 o475 [.bool x472] := ha480
          refine gu1 12 238 (.pointer (some ⟨g474, o475, none⟩)) rfl hS457 (fun w hSw => run_ixaddrN (E := 4) (s := 1) (k := .i64) (c := c91) rfl (by as_aux_lemma => kernel_rfl) (by as_aux_lemma => kernel_rfl) (by as_aux_lemma => kernel_rfl) (fun _ => by kernel_rfl) (ixg_in hx473).1 (lt_len hn97 (ixg_in hx473).2.1) hA477) ?_
          refine gu1 13 239 (.bool x472) rfl hS457 (fun w hSw => run_loadN1 0 rfl (by as_aux_lemma => kernel_rfl) (fun _ => by kernel_rfl) (ha480 _ (rowG_lies (e := boolE) hn97 (hSw.get 2 rfl))) rfl) ?_
          cases x472 with
          | true =>
           try dsimp only at hE467
           refine gv1 14 240 (.bool false) rfl hS457 ?_
           refine gv1 15 241 (.bool false) rfl hS457 ?_
           exact gd_to hK470 (by as_aux_lemma => kernel_rfl) ⟨false, selfA_i (by as_aux_lemma => kernel_rfl), (Option.some.inj hE467), hS457⟩
          | false =>
           try dsimp only at hE467
           refine gv1 14 240 (.bool true) rfl hS457 ?_
           refine gv1 15 241 (.bool true) rfl hS457 ?_
           exact gd_to hK470 (by as_aux_lemma => kernel_rfl) ⟨true, selfA_i (by as_aux_lemma => kernel_rfl), (Option.some.inj hE467), hS457⟩
         ·refine gu1 8 234 (.bool false) rfl hS457 (fun w hSw => run_boolE (ne_no h471) (by as_aux_lemma => kernel_rfl)) ?_
          refine gv1 9 235 (.bool false) rfl hS457 ?_
          refine gz1 10 236 rfl hS457 ?_
          refine gz1 11 237 rfl hS457 ?_
          refine gz1 12 238 rfl hS457 ?_
          refine gz1 13 239 rfl hS457 ?_
          refine gz1 14 240 rfl hS457 ?_
          refine gv1 15 241 (.bool false) rfl hS457 ?_
          exact gd_to hK470 (by as_aux_lemma => kernel_rfl) ⟨false, selfA_i (by as_aux_lemma => kernel_rfl), (Option.some.inj hE467), hS457⟩
       ·refine gx_vA (.bool false) w441 (run_boolE (decide_eq_false h451) (by as_aux_lemma => kernel_rfl)) ?_
        refine gx_nil ?_
        refine gx_thenN ?_
        refine hK450 _ _ ?_
        refine gx_no (by as_aux_lemma => kernel_rfl) ?_
        refine gx_exit ?_
        refine gx_thenE ?_
        refine gx_thenE ?_
        refine gx_blkE ?_
        refine gx_thenN ?_
        exact ⟨selfA_i (by as_aux_lemma => kernel_rfl), (Option.some.inj hL446), (hS442.pick [0] rfl rfl)⟩
    ·rintro _ w433 ⟨hq526, rfl, hS434⟩
     obtain ⟨u435, rfl⟩ := selfA_u hq526
     try dsimp only at hO438
     refine gx_seq (fun K518 hK519 => ?_)
     refine gx_region ?_
     have hP520 : St _ _ w433 ([] ++ [poolE ft51 W52]) := hS434
     obtain ⟨b522, hc521, hO438⟩ := bind_in hO438
     try dsimp only at hO438
     refine gx_cA (kAround_R b522 w433) (kAround_ok N  _ hc521 w433 (MirW.at hcd hS434.below)) ?_
     rintro _ w523 ⟨rfl, hT525⟩
     have hS524 : St _ _ w523 [poolE ft51 W52] := hS434.take _ hT525
     refine gx_kA (.bool b522) w523 ?_
     refine gx_nil ?_
     refine gx_thenN ?_
     refine hK519 _ _ ?_
     refine gx_ret ?_
     obtain rfl := Option.some.inj hO438
     exact gx_fin (.bool b522) (by as_aux_lemma => kernel_rfl) (by as_aux_lemma => kernel_rfl) ⟨_, rfl, rfl, (hS524.pick [] rfl rfl)⟩

end Go.Proofs.YtdfgecndbfmgnaaDoor
