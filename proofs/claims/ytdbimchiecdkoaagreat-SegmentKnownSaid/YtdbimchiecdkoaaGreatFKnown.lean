/-
  SegmentKnown, walked.
-/
import Derived.Test.YtdbimchiecdkoaaGreatFBreaks
import Derived.Test.YtdbimchiecdkoaaGreatFMarks
namespace Go.Proofs.YtdbimchiecdkoaaGreat
open Go Go.RowKit
set_option maxRecDepth 100000
set_option maxHeartbeats 4000000
set_option linter.unusedVariables false
def knL : List Int := 97 :: 11 :: 13 :: 10 :: 133 :: 32 :: 8203 :: 8288 :: 160 :: 769 :: 8205 :: 8208 :: 180 :: 8212 :: 45 :: 65532 :: 33 :: 8230 :: 12316 :: 40 :: 12296 :: 41 :: 125 :: 12297 :: 34 :: 171 :: 187 :: 44 :: 47 :: 37 :: 36 :: 49 :: 1488 :: 19968 :: 128074 :: 127995 :: 127462 :: 4352 :: 4449 :: 4520 :: 44032 :: 44033 :: 12288 :: []
def fKnown_L2 (N : Nat) (x348 : Int) : Nat → Int → Option (Ctl (Unit) (Bool))
 | 0, _ => none
 | k368+1, x367 => (if x367 < ((knL.length : Nat) : Int) then ((ix knL x348).bind fun x381 => ((ix knL x367).bind fun x383 => ((ix knL x348).bind fun x385 => ((ix knL x367).bind fun x387 => ((ix knL x348).bind fun x389 => ((fBreaks N ([x381, x383, 120, x385, 32, x387, 769, x389])).bind fun b395 => (match b395 with | true => ((ix knL x348).bind fun x399 => ((ix knL x367).bind fun x401 => ((ix knL x348).bind fun x403 => ((ix knL x367).bind fun x405 => ((ix knL x348).bind fun x407 => ((ix knL x367).bind fun x409 => ((fBreaks N ([49, x399, x401, 49, 1488, x403, x405, 19968, x407, x409])).bind fun b415 => (match b415 with | true => fKnown_L2 N x348 k368 (IntKind.i64.wrap (x367 + 1)) | false => some (Ctl.ret false))))))))) | false => some (Ctl.ret false)))))))) else some (Ctl.go ()))
def fKnown_L1 (N : Nat) : Nat → Int → Option (Ctl (Unit) (Bool))
 | 0, _ => none
 | k349+1, x348 => (if x348 < ((knL.length : Nat) : Int) then ((fKnown_L2 N x348 N 0 : Option (Ctl (Unit) (Bool))).bind fun | Ctl.go () => fKnown_L1 N k349 (IntKind.i64.wrap (x348 + 1)) | Ctl.ret r => some (Ctl.ret r)) else some (Ctl.go ()))
def fKnown_L3 (N : Nat) : Nat → (List Int) → Int → Option (List Int)
 | 0, _, _ => none
 | k447+1, l445, x446 => (if x446 < 399 then ((ix ([127462, 32, 40, 49, 46]) (Int.tmod x446 5)).bind fun x458 => ((apx l445 ([x458])).bind fun l462 => fKnown_L3 N k447 l462 (IntKind.i64.wrap (x446 + 1)))) else some (l445))
def fKnown (N : Nat) : Option (Bool) :=
 ((((((kAre N (⟨#[97, 10, 98]⟩ : ByteArray) (⟨#[48, 48, 50, 50]⟩ : ByteArray)).bind fun b20 => (match b20 with | true => ((kAre N (⟨#[97, 10, 13, 98]⟩ : ByteArray) (⟨#[48, 48, 50, 50, 50]⟩ : ByteArray)).bind fun b26 => some (b26)) | false => some (false))) : Option (Bool)).bind fun b13 => (((match b13 with | true => ((kAre N (⟨#[40, 97, 41, 33]⟩ : ByteArray) (⟨#[48, 48, 48, 48, 50]⟩ : ByteArray)).bind fun b40 => some (b40)) | false => some (false)) : Option (Bool)).bind fun b33 => (((match b33 with | true => ((kAre N (⟨#[36, 49, 46, 53, 37, 32, 120]⟩ : ByteArray) (⟨#[48, 48, 48, 48, 48, 48, 49, 50]⟩ : ByteArray)).bind fun b54 => some (b54)) | false => some (false)) : Option (Bool)).bind fun b47 => (((match b47 with | true => ((kAre N (⟨#[97, 45, 98]⟩ : ByteArray) (⟨#[48, 48, 49, 50]⟩ : ByteArray)).bind fun b68 => some (b68)) | false => some (false)) : Option (Bool)).bind fun b61 => (((match b61 with | true => ((kAre N (⟨#[215, 144, 45, 97]⟩ : ByteArray) (⟨#[48, 48, 48, 50]⟩ : ByteArray)).bind fun b82 => some (b82)) | false => some (false)) : Option (Bool)).bind fun b75 => (((match b75 with | true => ((kAre N (⟨#[228, 184, 128, 228, 184, 129, 227, 128, 130]⟩ : ByteArray) (⟨#[48, 49, 48, 50]⟩ : ByteArray)).bind fun b96 => some (b96)) | false => some (false)) : Option (Bool)).bind fun b89 => (((match b89 with | true => ((kAre N (⟨#[97, 204, 129, 226, 128, 139, 98]⟩ : ByteArray) (⟨#[48, 48, 48, 49, 50]⟩ : ByteArray)).bind fun b110 => some (b110)) | false => some (false)) : Option (Bool)).bind fun b103 => (((match b103 with | true => ((kAre N (⟨#[240, 159, 135, 166, 240, 159, 135, 167, 240, 159, 135, 168]⟩ : ByteArray) (⟨#[48, 48, 49, 50]⟩ : ByteArray)).bind fun b124 => some (b124)) | false => some (false)) : Option (Bool)).bind fun b117 => (match b117 with | true => ((kAre N (⟨#[]⟩ : ByteArray) (⟨#[50]⟩ : ByteArray)).bind fun b130 => (match b130 with | true => ((kAre N (⟨#[32, 97]⟩ : ByteArray) (⟨#[48, 49, 50]⟩ : ByteArray)).bind fun b136 => some (b136)) | false => some (false))) | false => some (false)))))))))) : Option (Bool)).bind fun b6 => ((((((kAre N (⟨#[194, 171, 97, 194, 187, 32, 98]⟩ : ByteArray) (⟨#[48, 48, 48, 48, 49, 50]⟩ : ByteArray)).bind fun b157 => (match b157 with | true => ((kAre N (⟨#[97, 226, 128, 148, 98]⟩ : ByteArray) (⟨#[48, 49, 49, 50]⟩ : ByteArray)).bind fun b163 => some (b163)) | false => some (false))) : Option (Bool)).bind fun b150 => (((match b150 with | true => ((kAre N (⟨#[97, 32, 47, 32, 98]⟩ : ByteArray) (⟨#[48, 48, 48, 48, 49, 50]⟩ : ByteArray)).bind fun b177 => some (b177)) | false => some (false)) : Option (Bool)).bind fun b170 => (((match b170 with | true => ((kAre N (⟨#[97, 47, 98]⟩ : ByteArray) (⟨#[48, 48, 49, 50]⟩ : ByteArray)).bind fun b191 => some (b191)) | false => some (false)) : Option (Bool)).bind fun b184 => (((match b184 with | true => ((kAre N (⟨#[45, 49]⟩ : ByteArray) (⟨#[48, 48, 50]⟩ : ByteArray)).bind fun b205 => some (b205)) | false => some (false)) : Option (Bool)).bind fun b198 => (((match b198 with | true => ((kAre N (⟨#[120, 32, 45, 49]⟩ : ByteArray) (⟨#[48, 48, 49, 48, 50]⟩ : ByteArray)).bind fun b219 => some (b219)) | false => some (false)) : Option (Bool)).bind fun b212 => (((match b212 with | true => ((kAre N (⟨#[97, 194, 160, 98]⟩ : ByteArray) (⟨#[48, 48, 48, 50]⟩ : ByteArray)).bind fun b233 => some (b233)) | false => some (false)) : Option (Bool)).bind fun b226 => (((match b226 with | true => ((kAre N (⟨#[97, 226, 129, 160, 32, 98]⟩ : ByteArray) (⟨#[48, 48, 48, 49, 50]⟩ : ByteArray)).bind fun b247 => some (b247)) | false => some (false)) : Option (Bool)).bind fun b240 => (((match b240 with | true => ((kAre N (⟨#[49, 44, 53]⟩ : ByteArray) (⟨#[48, 48, 48, 50]⟩ : ByteArray)).bind fun b261 => some (b261)) | false => some (false)) : Option (Bool)).bind fun b254 => (((match b254 with | true => ((kAre N (⟨#[97, 44, 53]⟩ : ByteArray) (⟨#[48, 48, 48, 50]⟩ : ByteArray)).bind fun b275 => some (b275)) | false => some (false)) : Option (Bool)).bind fun b268 => (((match b268 with | true => ((kAre N (⟨#[97, 32, 44, 53]⟩ : ByteArray) (⟨#[48, 48, 49, 48, 50]⟩ : ByteArray)).bind fun b289 => some (b289)) | false => some (false)) : Option (Bool)).bind fun b282 => (((match b282 with | true => ((kAre N (⟨#[239, 191, 188, 239, 191, 188]⟩ : ByteArray) (⟨#[48, 49, 50]⟩ : ByteArray)).bind fun b303 => some (b303)) | false => some (false)) : Option (Bool)).bind fun b296 => (((match b296 with | true => ((kAre N (⟨#[97, 226, 128, 141, 228, 184, 128]⟩ : ByteArray) (⟨#[48, 48, 48, 50]⟩ : ByteArray)).bind fun b317 => some (b317)) | false => some (false)) : Option (Bool)).bind fun b310 => (match b310 with | true => ((kAre N (⟨#[226, 128, 156, 97, 226, 128, 157]⟩ : ByteArray) (⟨#[48, 48, 48, 50]⟩ : ByteArray)).bind fun b323 => (match b323 with | true => ((kAre N (⟨#[225, 132, 128, 225, 133, 161, 225, 134, 168, 234, 176, 128]⟩ : ByteArray) (⟨#[48, 48, 48, 49, 50]⟩ : ByteArray)).bind fun b329 => some (b329)) | false => some (false))) | false => some (false)))))))))))))) : Option (Bool)).bind fun b143 => ((fKnown_L1 N N 0 : Option (Ctl (Unit) (Bool))).bind fun | Ctl.go () => ((fKnown_L3 N N ([]) 0 : Option (List Int)).bind fun l433 => (((match b6 with | true => some (b143) | false => some (false)) : Option (Bool)).bind fun b475 => (((match b475 with | true => ((fBreaks N l433).bind fun b490 => some (b490)) | false => some (false)) : Option (Bool)).bind fun b483 => (match b483 with | true => ((fMarks N ([97, 45, 1488, 32, 8205, 49]) (2 : Int)).bind fun b498 => (match b498 with | true => ((kWorks N ).bind fun b504 => some b504) | false => some false)) | false => some false)))) | Ctl.ret r => some r)))
def fKnown_R (r : Bool) (w0 : World) (v : Value) (w : World) : Prop := v = .bool r ∧ St [] w0 w []
theorem fKnown_ok (N : Nat)  (r : Bool) (hF : fKnown N = some r) (w0 : World)  :
  Calls Tryz.prog 3 #[] w0 fun e w => ∃ v, e = .returned v ∧ fKnown_R r w0 v w := by
 have hS0 := St.start w0
 unfold fKnown at hF
 refine calls_of Tryz.func3 rfl ⟨(un 174 ([])).toArray, []⟩ (by as_aux_lemma => kernel_rfl) (gx_seq (fun K1 hK2 => gx_region (gx_kA (.bool false) w0 (gx_nil (gx_thenN (hK2 _ _ ?_))))))
 obtain ⟨c7, hE8, hO9⟩ := bind_in hF
 refine gx_cut (fun a w => ∃ (b6 : Bool), selfA (fun u5 => ⟨((.bool false) :: (.bool b6) :: un 6 (dd u5 8 31 (un 135 ([])))).toArray, []⟩) a ∧ b6 = c7 ∧ St [] w0 w []) ?_ ?_
 refine gx_region ?_
 obtain ⟨c14, hE15, hO16⟩ := bind_in hE8
 refine gx_part (l1 := [_, _, _, _]) (fun a w => ∃ (b13 : Bool), selfA (fun u12 => ⟨((.bool false) :: un 7 (dd u12 8 3 ((.bool b13) :: un 162 ([])))).toArray, []⟩) a ∧ b13 = c14 ∧ St [] w0 w []) rfl ?_ ?_
 have hP18 : St _ _ w0 ([] ++ []) := hS0
 obtain ⟨b20, hc19, hE15⟩ := bind_in hE15
 try dsimp only at hE15
 refine gx_cA _ (kAre_ok N (⟨#[97, 10, 98]⟩ : ByteArray) (⟨#[48, 48, 50, 50]⟩ : ByteArray) _ hc19 w0 ) ?_
 rintro _ w21 ⟨rfl, hT23⟩
 have hS22 : St _ _ w21 [] := hS0.take _ hT23
 refine gx_kA (.bool b20) w21 ?_
 rcases b20 with _ | _
 try dsimp only at hE15
 refine gx_oA (gx_kA (.bool false) w21 (gx_nil (gx_thenN ?_)))
 exact ⟨false, selfX, (sj hE15), hS22⟩
 try dsimp only at hE15
 have hP24 : St _ _ w21 ([] ++ []) := hS22
 obtain ⟨b26, hc25, hE15⟩ := bind_in hE15
 try dsimp only at hE15
 refine gx_cA _ (kAre_ok N (⟨#[97, 10, 13, 98]⟩ : ByteArray) (⟨#[48, 48, 50, 50, 50]⟩ : ByteArray) _ hc25 w21 ) ?_
 rintro _ w27 ⟨rfl, hT29⟩
 have hS28 : St _ _ w27 [] := hS22.take _ hT29
 refine gx_kA (.bool b26) w27 (gx_nil (gx_thenN ?_))
 exact ⟨b26, selfX, (sj hE15), hS28⟩
 rintro _ w10 ⟨b13, hq17, rfl, hS11⟩
 obtain ⟨u12, rfl⟩ := selfA_u hq17
 try dsimp only at hO16
 obtain ⟨c34, hE35, hO36⟩ := bind_in hO16
 refine gx_part (l1 := [_, _, _]) (fun a w => ∃ (b33 : Bool), selfA (fun u32 => ⟨((.bool false) :: un 7 (dd u12 8 3 ((.bool b13) :: dd u32 12 2 ((.bool b33) :: un 159 ([]))))).toArray, []⟩) a ∧ b33 = c34 ∧ St [] w0 w []) rfl ?_ ?_
 refine gx_kA (.bool b13) w10 ?_
 rcases b13 with _ | _
 try dsimp only at hE35
 refine gx_oA (gx_kA (.bool false) w10 (gx_nil (gx_thenN ?_)))
 exact ⟨false, selfX, (sj hE35), hS11⟩
 try dsimp only at hE35
 have hP38 : St _ _ w10 ([] ++ []) := hS11
 obtain ⟨b40, hc39, hE35⟩ := bind_in hE35
 try dsimp only at hE35
 refine gx_cA _ (kAre_ok N (⟨#[40, 97, 41, 33]⟩ : ByteArray) (⟨#[48, 48, 48, 48, 50]⟩ : ByteArray) _ hc39 w10 ) ?_
 rintro _ w41 ⟨rfl, hT43⟩
 have hS42 : St _ _ w41 [] := hS11.take _ hT43
 refine gx_kA (.bool b40) w41 (gx_nil (gx_thenN ?_))
 exact ⟨b40, selfX, (sj hE35), hS42⟩
 rintro _ w30 ⟨b33, hq37, rfl, hS31⟩
 obtain ⟨u32, rfl⟩ := selfA_u hq37
 try dsimp only at hO36
 obtain ⟨c48, hE49, hO50⟩ := bind_in hO36
 refine gx_part (l1 := [_, _, _]) (fun a w => ∃ (b47 : Bool), selfA (fun u46 => ⟨((.bool false) :: un 7 (dd u12 8 3 ((.bool b13) :: dd u32 12 2 ((.bool b33) :: dd u46 15 2 ((.bool b47) :: un 156 ([])))))).toArray, []⟩) a ∧ b47 = c48 ∧ St [] w0 w []) rfl ?_ ?_
 refine gx_kA (.bool b33) w30 ?_
 rcases b33 with _ | _
 try dsimp only at hE49
 refine gx_oA (gx_kA (.bool false) w30 (gx_nil (gx_thenN ?_)))
 exact ⟨false, selfX, (sj hE49), hS31⟩
 try dsimp only at hE49
 have hP52 : St _ _ w30 ([] ++ []) := hS31
 obtain ⟨b54, hc53, hE49⟩ := bind_in hE49
 try dsimp only at hE49
 refine gx_cA _ (kAre_ok N (⟨#[36, 49, 46, 53, 37, 32, 120]⟩ : ByteArray) (⟨#[48, 48, 48, 48, 48, 48, 49, 50]⟩ : ByteArray) _ hc53 w30 ) ?_
 rintro _ w55 ⟨rfl, hT57⟩
 have hS56 : St _ _ w55 [] := hS31.take _ hT57
 refine gx_kA (.bool b54) w55 (gx_nil (gx_thenN ?_))
 exact ⟨b54, selfX, (sj hE49), hS56⟩
 rintro _ w44 ⟨b47, hq51, rfl, hS45⟩
 obtain ⟨u46, rfl⟩ := selfA_u hq51
 try dsimp only at hO50
 obtain ⟨c62, hE63, hO64⟩ := bind_in hO50
 refine gx_part (l1 := [_, _, _]) (fun a w => ∃ (b61 : Bool), selfA (fun u60 => ⟨((.bool false) :: un 7 (dd u12 8 3 ((.bool b13) :: dd u32 12 2 ((.bool b33) :: dd u46 15 2 ((.bool b47) :: dd u60 18 2 ((.bool b61) :: un 153 ([]))))))).toArray, []⟩) a ∧ b61 = c62 ∧ St [] w0 w []) rfl ?_ ?_
 refine gx_kA (.bool b47) w44 ?_
 rcases b47 with _ | _
 try dsimp only at hE63
 refine gx_oA (gx_kA (.bool false) w44 (gx_nil (gx_thenN ?_)))
 exact ⟨false, selfX, (sj hE63), hS45⟩
 try dsimp only at hE63
 have hP66 : St _ _ w44 ([] ++ []) := hS45
 obtain ⟨b68, hc67, hE63⟩ := bind_in hE63
 try dsimp only at hE63
 refine gx_cA _ (kAre_ok N (⟨#[97, 45, 98]⟩ : ByteArray) (⟨#[48, 48, 49, 50]⟩ : ByteArray) _ hc67 w44 ) ?_
 rintro _ w69 ⟨rfl, hT71⟩
 have hS70 : St _ _ w69 [] := hS45.take _ hT71
 refine gx_kA (.bool b68) w69 (gx_nil (gx_thenN ?_))
 exact ⟨b68, selfX, (sj hE63), hS70⟩
 rintro _ w58 ⟨b61, hq65, rfl, hS59⟩
 obtain ⟨u60, rfl⟩ := selfA_u hq65
 try dsimp only at hO64
 obtain ⟨c76, hE77, hO78⟩ := bind_in hO64
 refine gx_part (l1 := [_, _, _]) (fun a w => ∃ (b75 : Bool), selfA (fun u74 => ⟨((.bool false) :: un 7 (dd u12 8 3 ((.bool b13) :: dd u32 12 2 ((.bool b33) :: dd u46 15 2 ((.bool b47) :: dd u60 18 2 ((.bool b61) :: dd u74 21 2 ((.bool b75) :: un 150 ([])))))))).toArray, []⟩) a ∧ b75 = c76 ∧ St [] w0 w []) rfl ?_ ?_
 refine gx_kA (.bool b61) w58 ?_
 rcases b61 with _ | _
 try dsimp only at hE77
 refine gx_oA (gx_kA (.bool false) w58 (gx_nil (gx_thenN ?_)))
 exact ⟨false, selfX, (sj hE77), hS59⟩
 try dsimp only at hE77
 have hP80 : St _ _ w58 ([] ++ []) := hS59
 obtain ⟨b82, hc81, hE77⟩ := bind_in hE77
 try dsimp only at hE77
 refine gx_cA _ (kAre_ok N (⟨#[215, 144, 45, 97]⟩ : ByteArray) (⟨#[48, 48, 48, 50]⟩ : ByteArray) _ hc81 w58 ) ?_
 rintro _ w83 ⟨rfl, hT85⟩
 have hS84 : St _ _ w83 [] := hS59.take _ hT85
 refine gx_kA (.bool b82) w83 (gx_nil (gx_thenN ?_))
 exact ⟨b82, selfX, (sj hE77), hS84⟩
 rintro _ w72 ⟨b75, hq79, rfl, hS73⟩
 obtain ⟨u74, rfl⟩ := selfA_u hq79
 try dsimp only at hO78
 obtain ⟨c90, hE91, hO92⟩ := bind_in hO78
 refine gx_part (l1 := [_, _, _]) (fun a w => ∃ (b89 : Bool), selfA (fun u88 => ⟨((.bool false) :: un 7 (dd u12 8 3 ((.bool b13) :: dd u32 12 2 ((.bool b33) :: dd u46 15 2 ((.bool b47) :: dd u60 18 2 ((.bool b61) :: dd u74 21 2 ((.bool b75) :: dd u88 24 2 ((.bool b89) :: un 147 ([]))))))))).toArray, []⟩) a ∧ b89 = c90 ∧ St [] w0 w []) rfl ?_ ?_
 refine gx_kA (.bool b75) w72 ?_
 rcases b75 with _ | _
 try dsimp only at hE91
 refine gx_oA (gx_kA (.bool false) w72 (gx_nil (gx_thenN ?_)))
 exact ⟨false, selfX, (sj hE91), hS73⟩
 try dsimp only at hE91
 have hP94 : St _ _ w72 ([] ++ []) := hS73
 obtain ⟨b96, hc95, hE91⟩ := bind_in hE91
 try dsimp only at hE91
 refine gx_cA _ (kAre_ok N (⟨#[228, 184, 128, 228, 184, 129, 227, 128, 130]⟩ : ByteArray) (⟨#[48, 49, 48, 50]⟩ : ByteArray) _ hc95 w72 ) ?_
 rintro _ w97 ⟨rfl, hT99⟩
 have hS98 : St _ _ w97 [] := hS73.take _ hT99
 refine gx_kA (.bool b96) w97 (gx_nil (gx_thenN ?_))
 exact ⟨b96, selfX, (sj hE91), hS98⟩
 rintro _ w86 ⟨b89, hq93, rfl, hS87⟩
 obtain ⟨u88, rfl⟩ := selfA_u hq93
 try dsimp only at hO92
 obtain ⟨c104, hE105, hO106⟩ := bind_in hO92
 refine gx_part (l1 := [_, _, _]) (fun a w => ∃ (b103 : Bool), selfA (fun u102 => ⟨((.bool false) :: un 7 (dd u12 8 3 ((.bool b13) :: dd u32 12 2 ((.bool b33) :: dd u46 15 2 ((.bool b47) :: dd u60 18 2 ((.bool b61) :: dd u74 21 2 ((.bool b75) :: dd u88 24 2 ((.bool b89) :: dd u102 27 2 ((.bool b103) :: un 144 ([])))))))))).toArray, []⟩) a ∧ b103 = c104 ∧ St [] w0 w []) rfl ?_ ?_
 refine gx_kA (.bool b89) w86 ?_
 rcases b89 with _ | _
 try dsimp only at hE105
 refine gx_oA (gx_kA (.bool false) w86 (gx_nil (gx_thenN ?_)))
 exact ⟨false, selfX, (sj hE105), hS87⟩
 try dsimp only at hE105
 have hP108 : St _ _ w86 ([] ++ []) := hS87
 obtain ⟨b110, hc109, hE105⟩ := bind_in hE105
 try dsimp only at hE105
 refine gx_cA _ (kAre_ok N (⟨#[97, 204, 129, 226, 128, 139, 98]⟩ : ByteArray) (⟨#[48, 48, 48, 49, 50]⟩ : ByteArray) _ hc109 w86 ) ?_
 rintro _ w111 ⟨rfl, hT113⟩
 have hS112 : St _ _ w111 [] := hS87.take _ hT113
 refine gx_kA (.bool b110) w111 (gx_nil (gx_thenN ?_))
 exact ⟨b110, selfX, (sj hE105), hS112⟩
 rintro _ w100 ⟨b103, hq107, rfl, hS101⟩
 obtain ⟨u102, rfl⟩ := selfA_u hq107
 try dsimp only at hO106
 obtain ⟨c118, hE119, hO120⟩ := bind_in hO106
 refine gx_part (l1 := [_, _, _]) (fun a w => ∃ (b117 : Bool), selfA (fun u116 => ⟨((.bool false) :: un 7 (dd u12 8 3 ((.bool b13) :: dd u32 12 2 ((.bool b33) :: dd u46 15 2 ((.bool b47) :: dd u60 18 2 ((.bool b61) :: dd u74 21 2 ((.bool b75) :: dd u88 24 2 ((.bool b89) :: dd u102 27 2 ((.bool b103) :: dd u116 30 2 ((.bool b117) :: un 141 ([]))))))))))).toArray, []⟩) a ∧ b117 = c118 ∧ St [] w0 w []) rfl ?_ ?_
 refine gx_kA (.bool b103) w100 ?_
 rcases b103 with _ | _
 try dsimp only at hE119
 refine gx_oA (gx_kA (.bool false) w100 (gx_nil (gx_thenN ?_)))
 exact ⟨false, selfX, (sj hE119), hS101⟩
 try dsimp only at hE119
 have hP122 : St _ _ w100 ([] ++ []) := hS101
 obtain ⟨b124, hc123, hE119⟩ := bind_in hE119
 try dsimp only at hE119
 refine gx_cA _ (kAre_ok N (⟨#[240, 159, 135, 166, 240, 159, 135, 167, 240, 159, 135, 168]⟩ : ByteArray) (⟨#[48, 48, 49, 50]⟩ : ByteArray) _ hc123 w100 ) ?_
 rintro _ w125 ⟨rfl, hT127⟩
 have hS126 : St _ _ w125 [] := hS101.take _ hT127
 refine gx_kA (.bool b124) w125 (gx_nil (gx_thenN ?_))
 exact ⟨b124, selfX, (sj hE119), hS126⟩
 rintro _ w114 ⟨b117, hq121, rfl, hS115⟩
 obtain ⟨u116, rfl⟩ := selfA_u hq121
 try dsimp only at hO120
 refine gx_kA (.bool b117) w114 ?_
 rcases b117 with _ | _
 try dsimp only at hO120
 refine gx_oA (gx_kA (.bool false) w114 (gx_kA (.bool false) w114 (gx_oA (gx_kA (.bool false) w114 (gx_kA (.bool false) w114 (gx_nil (gx_thenN ?_)))))))
 exact ⟨false, selfX, (sj hO120), hS115⟩
 try dsimp only at hO120
 have hP128 : St _ _ w114 ([] ++ []) := hS115
 obtain ⟨b130, hc129, hO120⟩ := bind_in hO120
 try dsimp only at hO120
 refine gx_cA _ (kAre_ok N (⟨#[]⟩ : ByteArray) (⟨#[50]⟩ : ByteArray) _ hc129 w114 ) ?_
 rintro _ w131 ⟨rfl, hT133⟩
 have hS132 : St _ _ w131 [] := hS115.take _ hT133
 refine gx_kA (.bool b130) w131 (gx_kA (.bool b130) w131 ?_)
 rcases b130 with _ | _
 try dsimp only at hO120
 refine gx_oA (gx_kA (.bool false) w131 (gx_kA (.bool false) w131 (gx_nil (gx_thenN ?_))))
 exact ⟨false, selfX, (sj hO120), hS132⟩
 try dsimp only at hO120
 have hP134 : St _ _ w131 ([] ++ []) := hS132
 obtain ⟨b136, hc135, hO120⟩ := bind_in hO120
 try dsimp only at hO120
 refine gx_cA _ (kAre_ok N (⟨#[32, 97]⟩ : ByteArray) (⟨#[48, 49, 50]⟩ : ByteArray) _ hc135 w131 ) ?_
 rintro _ w137 ⟨rfl, hT139⟩
 have hS138 : St _ _ w137 [] := hS132.take _ hT139
 refine gx_kA (.bool b136) w137 (gx_kA (.bool b136) w137 (gx_nil (gx_thenN ?_)))
 exact ⟨b136, selfX, (sj hO120), hS138⟩
 rintro _ w3 ⟨b6, hq511, rfl, hS4⟩
 obtain ⟨u5, rfl⟩ := selfA_u hq511
 try dsimp only at hO9
 obtain ⟨c144, hE145, hO146⟩ := bind_in hO9
 refine gx_cut (fun a w => ∃ (b143 : Bool), selfA (fun u142 => ⟨((.bool false) :: (.bool b6) :: (.bool b143) :: un 5 (dd u5 8 31 (dd u142 39 43 (un 92 ([]))))).toArray, []⟩) a ∧ b143 = c144 ∧ St [] w0 w []) ?_ ?_
 refine gx_region ?_
 obtain ⟨c151, hE152, hO153⟩ := bind_in hE145
 refine gx_part (l1 := [_, _, _, _]) (fun a w => ∃ (b150 : Bool), selfA (fun u149 => ⟨((.bool false) :: (.bool b6) :: un 6 (dd u5 8 31 (dd u149 39 3 ((.bool b150) :: un 131 ([]))))).toArray, []⟩) a ∧ b150 = c151 ∧ St [] w0 w []) rfl ?_ ?_
 have hP155 : St _ _ w3 ([] ++ []) := hS4
 obtain ⟨b157, hc156, hE152⟩ := bind_in hE152
 try dsimp only at hE152
 refine gx_cA _ (kAre_ok N (⟨#[194, 171, 97, 194, 187, 32, 98]⟩ : ByteArray) (⟨#[48, 48, 48, 48, 49, 50]⟩ : ByteArray) _ hc156 w3 ) ?_
 rintro _ w158 ⟨rfl, hT160⟩
 have hS159 : St _ _ w158 [] := hS4.take _ hT160
 refine gx_kA (.bool b157) w158 ?_
 rcases b157 with _ | _
 try dsimp only at hE152
 refine gx_oA (gx_kA (.bool false) w158 (gx_nil (gx_thenN ?_)))
 exact ⟨false, selfX, (sj hE152), hS159⟩
 try dsimp only at hE152
 have hP161 : St _ _ w158 ([] ++ []) := hS159
 obtain ⟨b163, hc162, hE152⟩ := bind_in hE152
 try dsimp only at hE152
 refine gx_cA _ (kAre_ok N (⟨#[97, 226, 128, 148, 98]⟩ : ByteArray) (⟨#[48, 49, 49, 50]⟩ : ByteArray) _ hc162 w158 ) ?_
 rintro _ w164 ⟨rfl, hT166⟩
 have hS165 : St _ _ w164 [] := hS159.take _ hT166
 refine gx_kA (.bool b163) w164 (gx_nil (gx_thenN ?_))
 exact ⟨b163, selfX, (sj hE152), hS165⟩
 rintro _ w147 ⟨b150, hq154, rfl, hS148⟩
 obtain ⟨u149, rfl⟩ := selfA_u hq154
 try dsimp only at hO153
 obtain ⟨c171, hE172, hO173⟩ := bind_in hO153
 refine gx_part (l1 := [_, _, _]) (fun a w => ∃ (b170 : Bool), selfA (fun u169 => ⟨((.bool false) :: (.bool b6) :: un 6 (dd u5 8 31 (dd u149 39 3 ((.bool b150) :: dd u169 43 2 ((.bool b170) :: un 128 ([])))))).toArray, []⟩) a ∧ b170 = c171 ∧ St [] w0 w []) rfl ?_ ?_
 refine gx_kA (.bool b150) w147 ?_
 rcases b150 with _ | _
 try dsimp only at hE172
 refine gx_oA (gx_kA (.bool false) w147 (gx_nil (gx_thenN ?_)))
 exact ⟨false, selfX, (sj hE172), hS148⟩
 try dsimp only at hE172
 have hP175 : St _ _ w147 ([] ++ []) := hS148
 obtain ⟨b177, hc176, hE172⟩ := bind_in hE172
 try dsimp only at hE172
 refine gx_cA _ (kAre_ok N (⟨#[97, 32, 47, 32, 98]⟩ : ByteArray) (⟨#[48, 48, 48, 48, 49, 50]⟩ : ByteArray) _ hc176 w147 ) ?_
 rintro _ w178 ⟨rfl, hT180⟩
 have hS179 : St _ _ w178 [] := hS148.take _ hT180
 refine gx_kA (.bool b177) w178 (gx_nil (gx_thenN ?_))
 exact ⟨b177, selfX, (sj hE172), hS179⟩
 rintro _ w167 ⟨b170, hq174, rfl, hS168⟩
 obtain ⟨u169, rfl⟩ := selfA_u hq174
 try dsimp only at hO173
 obtain ⟨c185, hE186, hO187⟩ := bind_in hO173
 refine gx_part (l1 := [_, _, _]) (fun a w => ∃ (b184 : Bool), selfA (fun u183 => ⟨((.bool false) :: (.bool b6) :: un 6 (dd u5 8 31 (dd u149 39 3 ((.bool b150) :: dd u169 43 2 ((.bool b170) :: dd u183 46 2 ((.bool b184) :: un 125 ([]))))))).toArray, []⟩) a ∧ b184 = c185 ∧ St [] w0 w []) rfl ?_ ?_
 refine gx_kA (.bool b170) w167 ?_
 rcases b170 with _ | _
 try dsimp only at hE186
 refine gx_oA (gx_kA (.bool false) w167 (gx_nil (gx_thenN ?_)))
 exact ⟨false, selfX, (sj hE186), hS168⟩
 try dsimp only at hE186
 have hP189 : St _ _ w167 ([] ++ []) := hS168
 obtain ⟨b191, hc190, hE186⟩ := bind_in hE186
 try dsimp only at hE186
 refine gx_cA _ (kAre_ok N (⟨#[97, 47, 98]⟩ : ByteArray) (⟨#[48, 48, 49, 50]⟩ : ByteArray) _ hc190 w167 ) ?_
 rintro _ w192 ⟨rfl, hT194⟩
 have hS193 : St _ _ w192 [] := hS168.take _ hT194
 refine gx_kA (.bool b191) w192 (gx_nil (gx_thenN ?_))
 exact ⟨b191, selfX, (sj hE186), hS193⟩
 rintro _ w181 ⟨b184, hq188, rfl, hS182⟩
 obtain ⟨u183, rfl⟩ := selfA_u hq188
 try dsimp only at hO187
 obtain ⟨c199, hE200, hO201⟩ := bind_in hO187
 refine gx_part (l1 := [_, _, _]) (fun a w => ∃ (b198 : Bool), selfA (fun u197 => ⟨((.bool false) :: (.bool b6) :: un 6 (dd u5 8 31 (dd u149 39 3 ((.bool b150) :: dd u169 43 2 ((.bool b170) :: dd u183 46 2 ((.bool b184) :: dd u197 49 2 ((.bool b198) :: un 122 ([])))))))).toArray, []⟩) a ∧ b198 = c199 ∧ St [] w0 w []) rfl ?_ ?_
 refine gx_kA (.bool b184) w181 ?_
 rcases b184 with _ | _
 try dsimp only at hE200
 refine gx_oA (gx_kA (.bool false) w181 (gx_nil (gx_thenN ?_)))
 exact ⟨false, selfX, (sj hE200), hS182⟩
 try dsimp only at hE200
 have hP203 : St _ _ w181 ([] ++ []) := hS182
 obtain ⟨b205, hc204, hE200⟩ := bind_in hE200
 try dsimp only at hE200
 refine gx_cA _ (kAre_ok N (⟨#[45, 49]⟩ : ByteArray) (⟨#[48, 48, 50]⟩ : ByteArray) _ hc204 w181 ) ?_
 rintro _ w206 ⟨rfl, hT208⟩
 have hS207 : St _ _ w206 [] := hS182.take _ hT208
 refine gx_kA (.bool b205) w206 (gx_nil (gx_thenN ?_))
 exact ⟨b205, selfX, (sj hE200), hS207⟩
 rintro _ w195 ⟨b198, hq202, rfl, hS196⟩
 obtain ⟨u197, rfl⟩ := selfA_u hq202
 try dsimp only at hO201
 obtain ⟨c213, hE214, hO215⟩ := bind_in hO201
 refine gx_part (l1 := [_, _, _]) (fun a w => ∃ (b212 : Bool), selfA (fun u211 => ⟨((.bool false) :: (.bool b6) :: un 6 (dd u5 8 31 (dd u149 39 3 ((.bool b150) :: dd u169 43 2 ((.bool b170) :: dd u183 46 2 ((.bool b184) :: dd u197 49 2 ((.bool b198) :: dd u211 52 2 ((.bool b212) :: un 119 ([]))))))))).toArray, []⟩) a ∧ b212 = c213 ∧ St [] w0 w []) rfl ?_ ?_
 refine gx_kA (.bool b198) w195 ?_
 rcases b198 with _ | _
 try dsimp only at hE214
 refine gx_oA (gx_kA (.bool false) w195 (gx_nil (gx_thenN ?_)))
 exact ⟨false, selfX, (sj hE214), hS196⟩
 try dsimp only at hE214
 have hP217 : St _ _ w195 ([] ++ []) := hS196
 obtain ⟨b219, hc218, hE214⟩ := bind_in hE214
 try dsimp only at hE214
 refine gx_cA _ (kAre_ok N (⟨#[120, 32, 45, 49]⟩ : ByteArray) (⟨#[48, 48, 49, 48, 50]⟩ : ByteArray) _ hc218 w195 ) ?_
 rintro _ w220 ⟨rfl, hT222⟩
 have hS221 : St _ _ w220 [] := hS196.take _ hT222
 refine gx_kA (.bool b219) w220 (gx_nil (gx_thenN ?_))
 exact ⟨b219, selfX, (sj hE214), hS221⟩
 rintro _ w209 ⟨b212, hq216, rfl, hS210⟩
 obtain ⟨u211, rfl⟩ := selfA_u hq216
 try dsimp only at hO215
 obtain ⟨c227, hE228, hO229⟩ := bind_in hO215
 refine gx_part (l1 := [_, _, _]) (fun a w => ∃ (b226 : Bool), selfA (fun u225 => ⟨((.bool false) :: (.bool b6) :: un 6 (dd u5 8 31 (dd u149 39 3 ((.bool b150) :: dd u169 43 2 ((.bool b170) :: dd u183 46 2 ((.bool b184) :: dd u197 49 2 ((.bool b198) :: dd u211 52 2 ((.bool b212) :: dd u225 55 2 ((.bool b226) :: un 116 ([])))))))))).toArray, []⟩) a ∧ b226 = c227 ∧ St [] w0 w []) rfl ?_ ?_
 refine gx_kA (.bool b212) w209 ?_
 rcases b212 with _ | _
 try dsimp only at hE228
 refine gx_oA (gx_kA (.bool false) w209 (gx_nil (gx_thenN ?_)))
 exact ⟨false, selfX, (sj hE228), hS210⟩
 try dsimp only at hE228
 have hP231 : St _ _ w209 ([] ++ []) := hS210
 obtain ⟨b233, hc232, hE228⟩ := bind_in hE228
 try dsimp only at hE228
 refine gx_cA _ (kAre_ok N (⟨#[97, 194, 160, 98]⟩ : ByteArray) (⟨#[48, 48, 48, 50]⟩ : ByteArray) _ hc232 w209 ) ?_
 rintro _ w234 ⟨rfl, hT236⟩
 have hS235 : St _ _ w234 [] := hS210.take _ hT236
 refine gx_kA (.bool b233) w234 (gx_nil (gx_thenN ?_))
 exact ⟨b233, selfX, (sj hE228), hS235⟩
 rintro _ w223 ⟨b226, hq230, rfl, hS224⟩
 obtain ⟨u225, rfl⟩ := selfA_u hq230
 try dsimp only at hO229
 obtain ⟨c241, hE242, hO243⟩ := bind_in hO229
 refine gx_part (l1 := [_, _, _]) (fun a w => ∃ (b240 : Bool), selfA (fun u239 => ⟨((.bool false) :: (.bool b6) :: un 6 (dd u5 8 31 (dd u149 39 3 ((.bool b150) :: dd u169 43 2 ((.bool b170) :: dd u183 46 2 ((.bool b184) :: dd u197 49 2 ((.bool b198) :: dd u211 52 2 ((.bool b212) :: dd u225 55 2 ((.bool b226) :: dd u239 58 2 ((.bool b240) :: un 113 ([]))))))))))).toArray, []⟩) a ∧ b240 = c241 ∧ St [] w0 w []) rfl ?_ ?_
 refine gx_kA (.bool b226) w223 ?_
 rcases b226 with _ | _
 try dsimp only at hE242
 refine gx_oA (gx_kA (.bool false) w223 (gx_nil (gx_thenN ?_)))
 exact ⟨false, selfX, (sj hE242), hS224⟩
 try dsimp only at hE242
 have hP245 : St _ _ w223 ([] ++ []) := hS224
 obtain ⟨b247, hc246, hE242⟩ := bind_in hE242
 try dsimp only at hE242
 refine gx_cA _ (kAre_ok N (⟨#[97, 226, 129, 160, 32, 98]⟩ : ByteArray) (⟨#[48, 48, 48, 49, 50]⟩ : ByteArray) _ hc246 w223 ) ?_
 rintro _ w248 ⟨rfl, hT250⟩
 have hS249 : St _ _ w248 [] := hS224.take _ hT250
 refine gx_kA (.bool b247) w248 (gx_nil (gx_thenN ?_))
 exact ⟨b247, selfX, (sj hE242), hS249⟩
 rintro _ w237 ⟨b240, hq244, rfl, hS238⟩
 obtain ⟨u239, rfl⟩ := selfA_u hq244
 try dsimp only at hO243
 obtain ⟨c255, hE256, hO257⟩ := bind_in hO243
 refine gx_part (l1 := [_, _, _]) (fun a w => ∃ (b254 : Bool), selfA (fun u253 => ⟨((.bool false) :: (.bool b6) :: un 6 (dd u5 8 31 (dd u149 39 3 ((.bool b150) :: dd u169 43 2 ((.bool b170) :: dd u183 46 2 ((.bool b184) :: dd u197 49 2 ((.bool b198) :: dd u211 52 2 ((.bool b212) :: dd u225 55 2 ((.bool b226) :: dd u239 58 2 ((.bool b240) :: dd u253 61 2 ((.bool b254) :: un 110 ([])))))))))))).toArray, []⟩) a ∧ b254 = c255 ∧ St [] w0 w []) rfl ?_ ?_
 refine gx_kA (.bool b240) w237 ?_
 rcases b240 with _ | _
 try dsimp only at hE256
 refine gx_oA (gx_kA (.bool false) w237 (gx_nil (gx_thenN ?_)))
 exact ⟨false, selfX, (sj hE256), hS238⟩
 try dsimp only at hE256
 have hP259 : St _ _ w237 ([] ++ []) := hS238
 obtain ⟨b261, hc260, hE256⟩ := bind_in hE256
 try dsimp only at hE256
 refine gx_cA _ (kAre_ok N (⟨#[49, 44, 53]⟩ : ByteArray) (⟨#[48, 48, 48, 50]⟩ : ByteArray) _ hc260 w237 ) ?_
 rintro _ w262 ⟨rfl, hT264⟩
 have hS263 : St _ _ w262 [] := hS238.take _ hT264
 refine gx_kA (.bool b261) w262 (gx_nil (gx_thenN ?_))
 exact ⟨b261, selfX, (sj hE256), hS263⟩
 rintro _ w251 ⟨b254, hq258, rfl, hS252⟩
 obtain ⟨u253, rfl⟩ := selfA_u hq258
 try dsimp only at hO257
 obtain ⟨c269, hE270, hO271⟩ := bind_in hO257
 refine gx_part (l1 := [_, _, _]) (fun a w => ∃ (b268 : Bool), selfA (fun u267 => ⟨((.bool false) :: (.bool b6) :: un 6 (dd u5 8 31 (dd u149 39 3 ((.bool b150) :: dd u169 43 2 ((.bool b170) :: dd u183 46 2 ((.bool b184) :: dd u197 49 2 ((.bool b198) :: dd u211 52 2 ((.bool b212) :: dd u225 55 2 ((.bool b226) :: dd u239 58 2 ((.bool b240) :: dd u253 61 2 ((.bool b254) :: dd u267 64 2 ((.bool b268) :: un 107 ([]))))))))))))).toArray, []⟩) a ∧ b268 = c269 ∧ St [] w0 w []) rfl ?_ ?_
 refine gx_kA (.bool b254) w251 ?_
 rcases b254 with _ | _
 try dsimp only at hE270
 refine gx_oA (gx_kA (.bool false) w251 (gx_nil (gx_thenN ?_)))
 exact ⟨false, selfX, (sj hE270), hS252⟩
 try dsimp only at hE270
 have hP273 : St _ _ w251 ([] ++ []) := hS252
 obtain ⟨b275, hc274, hE270⟩ := bind_in hE270
 try dsimp only at hE270
 refine gx_cA _ (kAre_ok N (⟨#[97, 44, 53]⟩ : ByteArray) (⟨#[48, 48, 48, 50]⟩ : ByteArray) _ hc274 w251 ) ?_
 rintro _ w276 ⟨rfl, hT278⟩
 have hS277 : St _ _ w276 [] := hS252.take _ hT278
 refine gx_kA (.bool b275) w276 (gx_nil (gx_thenN ?_))
 exact ⟨b275, selfX, (sj hE270), hS277⟩
 rintro _ w265 ⟨b268, hq272, rfl, hS266⟩
 obtain ⟨u267, rfl⟩ := selfA_u hq272
 try dsimp only at hO271
 obtain ⟨c283, hE284, hO285⟩ := bind_in hO271
 refine gx_part (l1 := [_, _, _]) (fun a w => ∃ (b282 : Bool), selfA (fun u281 => ⟨((.bool false) :: (.bool b6) :: un 6 (dd u5 8 31 (dd u149 39 3 ((.bool b150) :: dd u169 43 2 ((.bool b170) :: dd u183 46 2 ((.bool b184) :: dd u197 49 2 ((.bool b198) :: dd u211 52 2 ((.bool b212) :: dd u225 55 2 ((.bool b226) :: dd u239 58 2 ((.bool b240) :: dd u253 61 2 ((.bool b254) :: dd u267 64 2 ((.bool b268) :: dd u281 67 2 ((.bool b282) :: un 104 ([])))))))))))))).toArray, []⟩) a ∧ b282 = c283 ∧ St [] w0 w []) rfl ?_ ?_
 refine gx_kA (.bool b268) w265 ?_
 rcases b268 with _ | _
 try dsimp only at hE284
 refine gx_oA (gx_kA (.bool false) w265 (gx_nil (gx_thenN ?_)))
 exact ⟨false, selfX, (sj hE284), hS266⟩
 try dsimp only at hE284
 have hP287 : St _ _ w265 ([] ++ []) := hS266
 obtain ⟨b289, hc288, hE284⟩ := bind_in hE284
 try dsimp only at hE284
 refine gx_cA _ (kAre_ok N (⟨#[97, 32, 44, 53]⟩ : ByteArray) (⟨#[48, 48, 49, 48, 50]⟩ : ByteArray) _ hc288 w265 ) ?_
 rintro _ w290 ⟨rfl, hT292⟩
 have hS291 : St _ _ w290 [] := hS266.take _ hT292
 refine gx_kA (.bool b289) w290 (gx_nil (gx_thenN ?_))
 exact ⟨b289, selfX, (sj hE284), hS291⟩
 rintro _ w279 ⟨b282, hq286, rfl, hS280⟩
 obtain ⟨u281, rfl⟩ := selfA_u hq286
 try dsimp only at hO285
 obtain ⟨c297, hE298, hO299⟩ := bind_in hO285
 refine gx_part (l1 := [_, _, _]) (fun a w => ∃ (b296 : Bool), selfA (fun u295 => ⟨((.bool false) :: (.bool b6) :: un 6 (dd u5 8 31 (dd u149 39 3 ((.bool b150) :: dd u169 43 2 ((.bool b170) :: dd u183 46 2 ((.bool b184) :: dd u197 49 2 ((.bool b198) :: dd u211 52 2 ((.bool b212) :: dd u225 55 2 ((.bool b226) :: dd u239 58 2 ((.bool b240) :: dd u253 61 2 ((.bool b254) :: dd u267 64 2 ((.bool b268) :: dd u281 67 2 ((.bool b282) :: dd u295 70 2 ((.bool b296) :: un 101 ([]))))))))))))))).toArray, []⟩) a ∧ b296 = c297 ∧ St [] w0 w []) rfl ?_ ?_
 refine gx_kA (.bool b282) w279 ?_
 rcases b282 with _ | _
 try dsimp only at hE298
 refine gx_oA (gx_kA (.bool false) w279 (gx_nil (gx_thenN ?_)))
 exact ⟨false, selfX, (sj hE298), hS280⟩
 try dsimp only at hE298
 have hP301 : St _ _ w279 ([] ++ []) := hS280
 obtain ⟨b303, hc302, hE298⟩ := bind_in hE298
 try dsimp only at hE298
 refine gx_cA _ (kAre_ok N (⟨#[239, 191, 188, 239, 191, 188]⟩ : ByteArray) (⟨#[48, 49, 50]⟩ : ByteArray) _ hc302 w279 ) ?_
 rintro _ w304 ⟨rfl, hT306⟩
 have hS305 : St _ _ w304 [] := hS280.take _ hT306
 refine gx_kA (.bool b303) w304 (gx_nil (gx_thenN ?_))
 exact ⟨b303, selfX, (sj hE298), hS305⟩
 rintro _ w293 ⟨b296, hq300, rfl, hS294⟩
 obtain ⟨u295, rfl⟩ := selfA_u hq300
 try dsimp only at hO299
 obtain ⟨c311, hE312, hO313⟩ := bind_in hO299
 refine gx_part (l1 := [_, _, _]) (fun a w => ∃ (b310 : Bool), selfA (fun u309 => ⟨((.bool false) :: (.bool b6) :: un 6 (dd u5 8 31 (dd u149 39 3 ((.bool b150) :: dd u169 43 2 ((.bool b170) :: dd u183 46 2 ((.bool b184) :: dd u197 49 2 ((.bool b198) :: dd u211 52 2 ((.bool b212) :: dd u225 55 2 ((.bool b226) :: dd u239 58 2 ((.bool b240) :: dd u253 61 2 ((.bool b254) :: dd u267 64 2 ((.bool b268) :: dd u281 67 2 ((.bool b282) :: dd u295 70 2 ((.bool b296) :: dd u309 73 2 ((.bool b310) :: un 98 ([])))))))))))))))).toArray, []⟩) a ∧ b310 = c311 ∧ St [] w0 w []) rfl ?_ ?_
 refine gx_kA (.bool b296) w293 ?_
 rcases b296 with _ | _
 try dsimp only at hE312
 refine gx_oA (gx_kA (.bool false) w293 (gx_nil (gx_thenN ?_)))
 exact ⟨false, selfX, (sj hE312), hS294⟩
 try dsimp only at hE312
 have hP315 : St _ _ w293 ([] ++ []) := hS294
 obtain ⟨b317, hc316, hE312⟩ := bind_in hE312
 try dsimp only at hE312
 refine gx_cA _ (kAre_ok N (⟨#[97, 226, 128, 141, 228, 184, 128]⟩ : ByteArray) (⟨#[48, 48, 48, 50]⟩ : ByteArray) _ hc316 w293 ) ?_
 rintro _ w318 ⟨rfl, hT320⟩
 have hS319 : St _ _ w318 [] := hS294.take _ hT320
 refine gx_kA (.bool b317) w318 (gx_nil (gx_thenN ?_))
 exact ⟨b317, selfX, (sj hE312), hS319⟩
 rintro _ w307 ⟨b310, hq314, rfl, hS308⟩
 obtain ⟨u309, rfl⟩ := selfA_u hq314
 try dsimp only at hO313
 refine gx_kA (.bool b310) w307 ?_
 rcases b310 with _ | _
 try dsimp only at hO313
 refine gx_oA (gx_kA (.bool false) w307 (gx_kA (.bool false) w307 (gx_oA (gx_kA (.bool false) w307 (gx_kA (.bool false) w307 (gx_nil (gx_thenN ?_)))))))
 exact ⟨false, selfX, (sj hO313), hS308⟩
 try dsimp only at hO313
 have hP321 : St _ _ w307 ([] ++ []) := hS308
 obtain ⟨b323, hc322, hO313⟩ := bind_in hO313
 try dsimp only at hO313
 refine gx_cA _ (kAre_ok N (⟨#[226, 128, 156, 97, 226, 128, 157]⟩ : ByteArray) (⟨#[48, 48, 48, 50]⟩ : ByteArray) _ hc322 w307 ) ?_
 rintro _ w324 ⟨rfl, hT326⟩
 have hS325 : St _ _ w324 [] := hS308.take _ hT326
 refine gx_kA (.bool b323) w324 (gx_kA (.bool b323) w324 ?_)
 rcases b323 with _ | _
 try dsimp only at hO313
 refine gx_oA (gx_kA (.bool false) w324 (gx_kA (.bool false) w324 (gx_nil (gx_thenN ?_))))
 exact ⟨false, selfX, (sj hO313), hS325⟩
 try dsimp only at hO313
 have hP327 : St _ _ w324 ([] ++ []) := hS325
 obtain ⟨b329, hc328, hO313⟩ := bind_in hO313
 try dsimp only at hO313
 refine gx_cA _ (kAre_ok N (⟨#[225, 132, 128, 225, 133, 161, 225, 134, 168, 234, 176, 128]⟩ : ByteArray) (⟨#[48, 48, 48, 49, 50]⟩ : ByteArray) _ hc328 w324 ) ?_
 rintro _ w330 ⟨rfl, hT332⟩
 have hS331 : St _ _ w330 [] := hS325.take _ hT332
 refine gx_kA (.bool b329) w330 (gx_kA (.bool b329) w330 (gx_nil (gx_thenN ?_)))
 exact ⟨b329, selfX, (sj hO313), hS331⟩
 rintro _ w140 ⟨b143, hq510, rfl, hS141⟩
 obtain ⟨u142, rfl⟩ := selfA_u hq510
 try dsimp only at hO146
 refine gx_seq (fun K333 hK334 => gx_region (gx_rA (st_made .i32 21 knL hS141 (by show 43 ≤ 1000000000; decide) (by as_aux_lemma => kernel_rfl)) ?_))
 rintro _ w335 ⟨rfl, hS336⟩
 have hS336 : St _ _ w335 [rowE .i32 21 (some ⟨w140.heap.size, 0, none⟩) 43 knL] := hS336
 refine gx_kA (.slice (some ⟨w140.heap.size, 0, none⟩) (knL.length) 43) w335 (gx_nil (gx_thenN (hK334 _ _ ?_)))
 obtain ⟨c340, hE341, hO342⟩ := bind_in hO146
 refine gx_cut (fun a w => selfA (fun u339 => ⟨((u339 0) :: (.bool b6) :: (.bool b143) :: dd u339 3 3 (undef :: undef :: dd u5 8 31 (dd u142 39 43 (dd u339 82 65 (un 27 ([])))))).toArray, []⟩) a ∧ Ctl.go () = c340 ∧ St [] w0 w []) ?_ ?_
 refine gx_seq (fun K343 hK344 => gx_region (gx_kA (i6 0) w335 (gx_nil (gx_thenN (hK344 _ _ (gx_block (gx_loop (fun k a w => ∃ (x348 : Int), selfA (fun u347 => ⟨((u347 0) :: (.bool b6) :: (.bool b143) :: (.slice (some ⟨w140.heap.size, 0, none⟩) (knL.length) 43) :: (i6 x348) :: (u347 5) :: undef :: undef :: dd u5 8 31 (dd u142 39 43 (dd u347 82 65 (un 27 ([]))))).toArray, []⟩) a ∧ fKnown_L1 N k x348 = some c340 ∧ St [] w0 w [rowE .i32 21 (some ⟨w140.heap.size, 0, none⟩) 43 knL]) N ?_ ?_)))))))
 exact ⟨0, selfX, hE341, hS336⟩
 rintro k349 _ w345 ⟨x348, hq425, hL350, hS346⟩
 obtain ⟨u347, rfl⟩ := selfA_u hq425
 rcases k349 with _ | k349
 cases hL350
 first | rw [fKnown_L1] at hL350 | unfold fKnown_L1 at hL350
 refine gx_seq (fun K351 hK352 => gx_seq (fun K353 hK354 => gx_region (gx_kA (i6 x348) w345 (gx_kA (.slice (some ⟨w140.heap.size, 0, none⟩) (knL.length) 43) w345 (gx_kA (i6 ((knL.length : Nat) : Int)) w345 ?_)))))
 rcases if_in hL350 with ⟨h355, hL350⟩ | ⟨h355, hL350⟩
 refine gx_vA (.bool true) w345 (rbE (decide_eq_true h355)) (gx_nil (gx_thenN (hK354 _ _ (gx_yes (by as_aux_lemma => kernel_rfl) (gx_pass (gx_thenN (hK352 _ _ ?_)))))))
 obtain ⟨c359, hE360, hO361⟩ := bind_in hL350
 refine gx_cut (fun a w => selfA (fun u358 => ⟨((u358 0) :: (.bool b6) :: (.bool b143) :: (.slice (some ⟨w140.heap.size, 0, none⟩) (knL.length) 43) :: (i6 x348) :: (u358 5) :: undef :: undef :: dd u5 8 31 (dd u142 39 43 ((u347 82) :: (i6 x348) :: (u358 84) :: (i6 ((knL.length : Nat) : Int)) :: (.bool true) :: dd u347 87 2 (dd u358 89 58 (un 27 ([])))))).toArray, []⟩) a ∧ Ctl.go () = c359 ∧ St [] w0 w [rowE .i32 21 (some ⟨w140.heap.size, 0, none⟩) 43 knL]) ?_ ?_
 refine gx_block (gx_seq (fun K362 hK363 => gx_region (gx_kA (i6 0) w345 (gx_nil (gx_thenN (hK363 _ _ (gx_block ?_)))))))
 refine gx_loop (fun k a w => ∃ (x367 : Int), selfA (fun u366 => ⟨((u366 0) :: (.bool b6) :: (.bool b143) :: (.slice (some ⟨w140.heap.size, 0, none⟩) (knL.length) 43) :: (i6 x348) :: (i6 x367) :: undef :: undef :: dd u5 8 31 (dd u142 39 43 ((u347 82) :: (i6 x348) :: (u366 84) :: (i6 ((knL.length : Nat) : Int)) :: (.bool true) :: dd u347 87 2 (dd u366 89 58 (un 27 ([])))))).toArray, []⟩) a ∧ fKnown_L2 N x348 k x367 = some c359 ∧ St [] w0 w [rowE .i32 21 (some ⟨w140.heap.size, 0, none⟩) 43 knL]) N ?_ ?_
 exact ⟨0, selfX, hE360, hS346⟩
 rintro k368 _ w364 ⟨x367, hq423, hL369, hS365⟩
 obtain ⟨u366, rfl⟩ := selfA_u hq423
 rcases k368 with _ | k368
 cases hL369
 first | rw [fKnown_L2] at hL369 | unfold fKnown_L2 at hL369
 refine gx_seq (fun K370 hK371 => gx_seq (fun K372 hK373 => gx_region (gx_kA (i6 x367) w364 (gx_kA (.slice (some ⟨w140.heap.size, 0, none⟩) (knL.length) 43) w364 (gx_kA (i6 ((knL.length : Nat) : Int)) w364 ?_)))))
 rcases if_in hL369 with ⟨h374, hL369⟩ | ⟨h374, hL369⟩
 refine gx_vA (.bool true) w364 (rbE (decide_eq_true h374)) (gx_nil (gx_thenN (hK373 _ _ (gx_yes (by as_aux_lemma => kernel_rfl) (gx_pass (gx_thenN (hK371 _ _ ?_)))))))
 refine gx_seq (fun K375 hK376 => gx_block (gx_seq (fun K377 hK378 => gdst (fun w => St [] w0 w [rowE .i32 21 (some ⟨w140.heap.size, 0, none⟩) 43 knL]) 52 ?_)))
 have hS380 := hS365.drew
 generalize w364.drew = w379 at hS380 ⊢
 refine gv1 0 95 (.slice (some ⟨w140.heap.size, 0, none⟩) (knL.length) 43) rfl hS380 (gv1 1 96 (i6 x348) rfl hS380 ?_)
 obtain ⟨x381, hx382, hL369⟩ := bind_in hL369
 refine gu1 2 97 (pI x348 (some ⟨w140.heap.size, 0, none⟩)) rfl hS380 (fun w hSw => rix 21 .i64 hx382 ((hS380.row 0 rfl).1)) (gu1 3 98 (.int .i32 x381) rfl hS380 (fun w hSw => rlx (hSw.row 0 rfl).1 hx382) (gv1 4 99 (.slice (some ⟨w140.heap.size, 0, none⟩) (knL.length) 43) rfl hS380 (gv1 5 100 (i6 x367) rfl hS380 ?_)))
 obtain ⟨x383, hx384, hL369⟩ := bind_in hL369
 refine gu1 6 101 (pI x367 (some ⟨w140.heap.size, 0, none⟩)) rfl hS380 (fun w hSw => rix 21 .i64 hx384 ((hS380.row 0 rfl).1)) (gu1 7 102 (.int .i32 x383) rfl hS380 (fun w hSw => rlx (hSw.row 0 rfl).1 hx384) (gv1 8 103 (.slice (some ⟨w140.heap.size, 0, none⟩) (knL.length) 43) rfl hS380 (gv1 9 104 (i6 x348) rfl hS380 ?_)))
 obtain ⟨x385, hx386, hL369⟩ := bind_in hL369
 refine gu1 10 105 (pI x348 (some ⟨w140.heap.size, 0, none⟩)) rfl hS380 (fun w hSw => rix 21 .i64 hx386 ((hS380.row 0 rfl).1)) (gu1 11 106 (.int .i32 x385) rfl hS380 (fun w hSw => rlx (hSw.row 0 rfl).1 hx386) (gv1 12 107 (.slice (some ⟨w140.heap.size, 0, none⟩) (knL.length) 43) rfl hS380 (gv1 13 108 (i6 x367) rfl hS380 ?_)))
 obtain ⟨x387, hx388, hL369⟩ := bind_in hL369
 refine gu1 14 109 (pI x367 (some ⟨w140.heap.size, 0, none⟩)) rfl hS380 (fun w hSw => rix 21 .i64 hx388 ((hS380.row 0 rfl).1)) (gu1 15 110 (.int .i32 x387) rfl hS380 (fun w hSw => rlx (hSw.row 0 rfl).1 hx388) (gv1 16 111 (.slice (some ⟨w140.heap.size, 0, none⟩) (knL.length) 43) rfl hS380 (gv1 17 112 (i6 x348) rfl hS380 ?_)))
 obtain ⟨x389, hx390, hL369⟩ := bind_in hL369
 refine gu1 18 113 (pI x348 (some ⟨w140.heap.size, 0, none⟩)) rfl hS380 (fun w hSw => rix 21 .i64 hx390 ((hS380.row 0 rfl).1)) (gu1 19 114 (.int .i32 x389) rfl hS380 (fun w hSw => rlx (hSw.row 0 rfl).1 hx390) (gdR 20 ⟨some 115, _, _, _, _, _⟩ rfl (st_made .i32 21 [x381, x383, 120, x385, 32, x387, 769, x389] hS380 (by show 8 ≤ 1000000000; decide) (by as_aux_lemma => kernel_rfl)) ?_))
 rintro _ w391 ⟨rfl, hS392⟩
 have hS392 : St _ _ w391 [rowE .i32 21 (some ⟨w140.heap.size, 0, none⟩) 43 knL, rowE .i32 21 (some ⟨w379.heap.size, 0, none⟩) 8 ([x381, x383, 120, x385, 32, x387, 769, x389])] := hS392
 refine ⟨(hS392.pick [0] rfl rfl), ?_⟩
 have hP393 : St _ _ w391 ([] ++ [rowE .i32 21 (some ⟨w140.heap.size, 0, none⟩) 43 knL, rowE .i32 21 (some ⟨w379.heap.size, 0, none⟩) 8 ([x381, x383, 120, x385, 32, x387, 769, x389])]) := hS392
 obtain ⟨b395, hc394, hL369⟩ := bind_in hL369
 try dsimp only at hL369
 refine gdC 21 ⟨some 116, _, _, _, _, _⟩ _ rfl (by as_aux_lemma => kernel_rfl) (fBreaks_ok N ([x381, x383, 120, x385, 32, x387, 769, x389]) (some ⟨w379.heap.size, 0, none⟩) 8 _ hc394 w391 (hP393.vwB 1 rfl)) ?_
 rintro _ w396 ⟨rfl, hT398⟩
 have hS397 : St _ _ w396 [rowE .i32 21 (some ⟨w140.heap.size, 0, none⟩) 43 knL, rowE .i32 21 (some ⟨w379.heap.size, 0, none⟩) 8 ([x381, x383, 120, x385, 32, x387, 769, x389])] := hS392.take _ hT398
 refine ⟨(hS397.pick [0] rfl rfl), ?_⟩
 rcases b395 with _ | _
 try dsimp only at hL369
 refine gv1 22 117 (.bool true) rfl (hS397.pick [0] rfl rfl) (gv1 23 118 (.bool true) rfl (hS397.pick [0] rfl rfl) (gz1 24 119 rfl (hS397.pick [0] rfl rfl) (gz1 25 120 rfl (hS397.pick [0] rfl rfl) (gz1 26 121 rfl (hS397.pick [0] rfl rfl) (gz1 27 122 rfl (hS397.pick [0] rfl rfl) (gz1 28 123 rfl (hS397.pick [0] rfl rfl) (gz1 29 124 rfl (hS397.pick [0] rfl rfl) ?_)))))))
 refine gz1 30 125 rfl (hS397.pick [0] rfl rfl) (gz1 31 126 rfl (hS397.pick [0] rfl rfl) (gz1 32 127 rfl (hS397.pick [0] rfl rfl) (gz1 33 128 rfl (hS397.pick [0] rfl rfl) (gz1 34 129 rfl (hS397.pick [0] rfl rfl) (gz1 35 130 rfl (hS397.pick [0] rfl rfl) (gz1 36 131 rfl (hS397.pick [0] rfl rfl) (gz1 37 132 rfl (hS397.pick [0] rfl rfl) ?_)))))))
 refine gz1 38 133 rfl (hS397.pick [0] rfl rfl) (gz1 39 134 rfl (hS397.pick [0] rfl rfl) (gz1 40 135 rfl (hS397.pick [0] rfl rfl) (gz1 41 136 rfl (hS397.pick [0] rfl rfl) (gz1 42 137 rfl (hS397.pick [0] rfl rfl) (gz1 43 138 rfl (hS397.pick [0] rfl rfl) (gz1 44 139 rfl (hS397.pick [0] rfl rfl) (gz1 45 140 rfl (hS397.pick [0] rfl rfl) ?_)))))))
 refine gz1 46 141 rfl (hS397.pick [0] rfl rfl) (gz1 47 142 rfl (hS397.pick [0] rfl rfl) (gz1 48 143 rfl (hS397.pick [0] rfl rfl) (gz1 49 144 rfl (hS397.pick [0] rfl rfl) (gz1 50 145 rfl (hS397.pick [0] rfl rfl) (gv1 51 146 (.bool true) rfl (hS397.pick [0] rfl rfl) (gd_done (by as_aux_lemma => kernel_rfl) (gx_thenN ?_)))))))
 refine hK378 _ _ (gx_yes (by as_aux_lemma => kernel_rfl) (gx_seq (fun K421 hK422 => gx_region (gx_kA (.bool false) w396 (gx_nil (gx_thenN (hK422 _ _ ?_)))))))
 refine gx_ret (gx_blkR (gx_thenR (gx_thenR (gx_blkR (gx_blkR (gx_thenR ?_))))))
 obtain rfl := sj hL369
 try dsimp only at hO361
 refine gx_thenR (gx_blkR (gx_thenR ?_))
 obtain rfl := sj hO361
 try dsimp only at hO342
 obtain rfl := sj hO342
 exact gxF (.bool false) ⟨_, rfl, rfl, (hS397.pick [] rfl rfl)⟩
 try dsimp only at hL369
 refine gv1 22 117 (.bool false) rfl (hS397.pick [0] rfl rfl) (gv1 23 118 (.bool false) rfl (hS397.pick [0] rfl rfl) (gv1 24 119 (.slice (some ⟨w140.heap.size, 0, none⟩) (knL.length) 43) rfl (hS397.pick [0] rfl rfl) (gv1 25 120 (i6 x348) rfl (hS397.pick [0] rfl rfl) ?_)))
 obtain ⟨x399, hx400, hL369⟩ := bind_in hL369
 refine gu1 26 121 (pI x348 (some ⟨w140.heap.size, 0, none⟩)) rfl (hS397.pick [0] rfl rfl) (fun w hSw => rix 21 .i64 hx400 ((hS397.row 0 rfl).1)) (gu1 27 122 (.int .i32 x399) rfl (hS397.pick [0] rfl rfl) (fun w hSw => rlx (hSw.row 0 rfl).1 hx400) (gv1 28 123 (.slice (some ⟨w140.heap.size, 0, none⟩) (knL.length) 43) rfl (hS397.pick [0] rfl rfl) (gv1 29 124 (i6 x367) rfl (hS397.pick [0] rfl rfl) ?_)))
 obtain ⟨x401, hx402, hL369⟩ := bind_in hL369
 refine gu1 30 125 (pI x367 (some ⟨w140.heap.size, 0, none⟩)) rfl (hS397.pick [0] rfl rfl) (fun w hSw => rix 21 .i64 hx402 ((hS397.row 0 rfl).1)) (gu1 31 126 (.int .i32 x401) rfl (hS397.pick [0] rfl rfl) (fun w hSw => rlx (hSw.row 0 rfl).1 hx402) (gv1 32 127 (.slice (some ⟨w140.heap.size, 0, none⟩) (knL.length) 43) rfl (hS397.pick [0] rfl rfl) (gv1 33 128 (i6 x348) rfl (hS397.pick [0] rfl rfl) ?_)))
 obtain ⟨x403, hx404, hL369⟩ := bind_in hL369
 refine gu1 34 129 (pI x348 (some ⟨w140.heap.size, 0, none⟩)) rfl (hS397.pick [0] rfl rfl) (fun w hSw => rix 21 .i64 hx404 ((hS397.row 0 rfl).1)) (gu1 35 130 (.int .i32 x403) rfl (hS397.pick [0] rfl rfl) (fun w hSw => rlx (hSw.row 0 rfl).1 hx404) (gv1 36 131 (.slice (some ⟨w140.heap.size, 0, none⟩) (knL.length) 43) rfl (hS397.pick [0] rfl rfl) (gv1 37 132 (i6 x367) rfl (hS397.pick [0] rfl rfl) ?_)))
 obtain ⟨x405, hx406, hL369⟩ := bind_in hL369
 refine gu1 38 133 (pI x367 (some ⟨w140.heap.size, 0, none⟩)) rfl (hS397.pick [0] rfl rfl) (fun w hSw => rix 21 .i64 hx406 ((hS397.row 0 rfl).1)) (gu1 39 134 (.int .i32 x405) rfl (hS397.pick [0] rfl rfl) (fun w hSw => rlx (hSw.row 0 rfl).1 hx406) (gv1 40 135 (.slice (some ⟨w140.heap.size, 0, none⟩) (knL.length) 43) rfl (hS397.pick [0] rfl rfl) (gv1 41 136 (i6 x348) rfl (hS397.pick [0] rfl rfl) ?_)))
 obtain ⟨x407, hx408, hL369⟩ := bind_in hL369
 refine gu1 42 137 (pI x348 (some ⟨w140.heap.size, 0, none⟩)) rfl (hS397.pick [0] rfl rfl) (fun w hSw => rix 21 .i64 hx408 ((hS397.row 0 rfl).1)) (gu1 43 138 (.int .i32 x407) rfl (hS397.pick [0] rfl rfl) (fun w hSw => rlx (hSw.row 0 rfl).1 hx408) (gv1 44 139 (.slice (some ⟨w140.heap.size, 0, none⟩) (knL.length) 43) rfl (hS397.pick [0] rfl rfl) (gv1 45 140 (i6 x367) rfl (hS397.pick [0] rfl rfl) ?_)))
 obtain ⟨x409, hx410, hL369⟩ := bind_in hL369
 refine gu1 46 141 (pI x367 (some ⟨w140.heap.size, 0, none⟩)) rfl (hS397.pick [0] rfl rfl) (fun w hSw => rix 21 .i64 hx410 ((hS397.row 0 rfl).1)) (gu1 47 142 (.int .i32 x409) rfl (hS397.pick [0] rfl rfl) (fun w hSw => rlx (hSw.row 0 rfl).1 hx410) (gdR 48 ⟨some 143, _, _, _, _, _⟩ rfl (st_made .i32 21 [49, x399, x401, 49, 1488, x403, x405, 19968, x407, x409] hS397 (by show 10 ≤ 1000000000; decide) (by as_aux_lemma => kernel_rfl)) ?_))
 rintro _ w411 ⟨rfl, hS412⟩
 have hS412 : St _ _ w411 [rowE .i32 21 (some ⟨w140.heap.size, 0, none⟩) 43 knL, rowE .i32 21 (some ⟨w379.heap.size, 0, none⟩) 8 ([x381, x383, 120, x385, 32, x387, 769, x389]), rowE .i32 21 (some ⟨w396.heap.size, 0, none⟩) 10 ([49, x399, x401, 49, 1488, x403, x405, 19968, x407, x409])] := hS412
 refine ⟨(hS412.pick [0] rfl rfl), ?_⟩
 have hP413 : St _ _ w411 ([] ++ [rowE .i32 21 (some ⟨w140.heap.size, 0, none⟩) 43 knL, rowE .i32 21 (some ⟨w379.heap.size, 0, none⟩) 8 ([x381, x383, 120, x385, 32, x387, 769, x389]), rowE .i32 21 (some ⟨w396.heap.size, 0, none⟩) 10 ([49, x399, x401, 49, 1488, x403, x405, 19968, x407, x409])]) := hS412
 obtain ⟨b415, hc414, hL369⟩ := bind_in hL369
 try dsimp only at hL369
 refine gdC 49 ⟨some 144, _, _, _, _, _⟩ _ rfl (by as_aux_lemma => kernel_rfl) (fBreaks_ok N ([49, x399, x401, 49, 1488, x403, x405, 19968, x407, x409]) (some ⟨w396.heap.size, 0, none⟩) 10 _ hc414 w411 (hP413.vwB 2 rfl)) ?_
 rintro _ w416 ⟨rfl, hT418⟩
 have hS417 : St _ _ w416 [rowE .i32 21 (some ⟨w140.heap.size, 0, none⟩) 43 knL, rowE .i32 21 (some ⟨w379.heap.size, 0, none⟩) 8 ([x381, x383, 120, x385, 32, x387, 769, x389]), rowE .i32 21 (some ⟨w396.heap.size, 0, none⟩) 10 ([49, x399, x401, 49, 1488, x403, x405, 19968, x407, x409])] := hS412.take _ hT418
 refine ⟨(hS417.pick [0] rfl rfl), ?_⟩
 rcases b415 with _ | _
 try dsimp only at hL369
 refine gv1 50 145 (.bool true) rfl (hS417.pick [0] rfl rfl) (gv1 51 146 (.bool true) rfl (hS417.pick [0] rfl rfl) (gd_done (by as_aux_lemma => kernel_rfl) (gx_thenN (hK378 _ _ (gx_yes (by as_aux_lemma => kernel_rfl) (gx_seq (fun K419 hK420 => gx_region ?_)))))))
 refine gx_kA (.bool false) w416 (gx_nil (gx_thenN (hK420 _ _ (gx_ret (gx_blkR (gx_thenR (gx_thenR ?_)))))))
 refine gx_blkR (gx_blkR (gx_thenR ?_))
 obtain rfl := sj hL369
 try dsimp only at hO361
 refine gx_thenR (gx_blkR (gx_thenR ?_))
 obtain rfl := sj hO361
 try dsimp only at hO342
 obtain rfl := sj hO342
 exact gxF (.bool false) ⟨_, rfl, rfl, (hS417.pick [] rfl rfl)⟩
 try dsimp only at hL369
 refine gv1 50 145 (.bool false) rfl (hS417.pick [0] rfl rfl) (gv1 51 146 (.bool false) rfl (hS417.pick [0] rfl rfl) (gd_done (by as_aux_lemma => kernel_rfl) (gx_thenN (hK378 _ _ (gx_no (by as_aux_lemma => kernel_rfl) (gx_pass (gx_blkN ?_)))))))
 refine gx_thenN (hK376 _ _ (gx_region (gx_kA (i6 x367) w416 (gx_kA (i6 (iw (x367 + 1))) w416 (gx_kA (i6 (iw (x367 + 1))) w416 (gx_nil (gx_thenN ?_)))))))
 exact ⟨k368, Nat.lt_succ_self k368, (iw (x367 + 1)), selfX, hL369, (hS417.pick [0] rfl rfl)⟩
 refine gx_vA (.bool false) w364 (rbE (decide_eq_false h374)) (gx_nil (gx_thenN (hK373 _ _ (gx_no (by as_aux_lemma => kernel_rfl) (gx_exit (gx_thenE (gx_thenE ?_)))))))
 refine gx_blkE (gx_blkN (gx_thenN ?_))
 exact ⟨selfX, (sj hL369), hS365⟩
 rintro _ w356 ⟨hq424, rfl, hS357⟩
 obtain ⟨u358, rfl⟩ := selfA_u hq424
 try dsimp only at hO361
 refine gx_region (gx_kA (i6 x348) w356 (gx_kA (i6 (iw (x348 + 1))) w356 (gx_kA (i6 (iw (x348 + 1))) w356 (gx_nil (gx_thenN ?_)))))
 exact ⟨k349, Nat.lt_succ_self k349, (iw (x348 + 1)), selfX, hO361, hS357⟩
 refine gx_vA (.bool false) w345 (rbE (decide_eq_false h355)) (gx_nil (gx_thenN (hK354 _ _ (gx_no (by as_aux_lemma => kernel_rfl) (gx_exit (gx_thenE (gx_thenE ?_)))))))
 refine gx_blkE (gx_thenN ?_)
 exact ⟨selfX, (sj hL350), (hS346.pick [] rfl rfl)⟩
 rintro _ w337 ⟨hq509, rfl, hS338⟩
 obtain ⟨u339, rfl⟩ := selfA_u hq509
 try dsimp only at hO342
 refine gx_seq (fun K426 hK427 => gx_region (gx_kA (nS) w337 (gx_nil (gx_thenN (hK427 _ _ ?_)))))
 obtain ⟨c434, hE435, hO436⟩ := bind_in hO342
 refine gx_cut (fun a w => ∃ (l433 : List Int) (A431 : Option Addr) (c432 : Nat), selfA (fun u430 => ⟨((u339 0) :: (.bool b6) :: (.bool b143) :: dd u339 3 3 ((.slice A431 l433.length c432) :: (u430 7) :: dd u5 8 31 (dd u142 39 43 (dd u339 82 65 (dd u430 147 12 (un 15 ([]))))))).toArray, []⟩) a ∧ l433 = c434 ∧ St [] w0 w [rowE .i32 21 A431 c432 l433]) ?_ ?_
 refine gx_seq (fun K437 hK438 => gx_region (gx_kA (i6 0) w337 (gx_nil (gx_thenN (hK438 _ _ (gx_block ?_))))))
 have hS439 : St _ _ w337 [rowE .i32 21 none 0 ([])] := hS338.nilrow .i32 21
 refine gx_loop (fun k a w => ∃ (l445 : List Int) (x446 : Int) (A443 : Option Addr) (c444 : Nat), selfA (fun u442 => ⟨((u339 0) :: (.bool b6) :: (.bool b143) :: dd u339 3 3 ((.slice A443 l445.length c444) :: (i6 x446) :: dd u5 8 31 (dd u142 39 43 (dd u339 82 65 (dd u442 147 12 (un 15 ([]))))))).toArray, []⟩) a ∧ fKnown_L3 N k l445 x446 = some c434 ∧ St [] w0 w [rowE .i32 21 A443 c444 l445]) N ?_ ?_
 exact ⟨([]), 0, none, 0, selfX, hE435, hS439⟩
 rintro k447 _ w440 ⟨l445, x446, A443, c444, hq469, hL448, hS441⟩
 obtain ⟨u442, rfl⟩ := selfA_u hq469
 rcases k447 with _ | k447
 cases hL448
 first | rw [fKnown_L3] at hL448 | unfold fKnown_L3 at hL448
 refine gx_seq (fun K449 hK450 => gx_seq (fun K451 hK452 => gx_region (gx_kA (i6 x446) w440 ?_)))
 rcases if_in hL448 with ⟨h453, hL448⟩ | ⟨h453, hL448⟩
 refine gx_vA (.bool true) w440 (rbE (decide_eq_true h453)) (gx_nil (gx_thenN (hK452 _ _ (gx_yes (by as_aux_lemma => kernel_rfl) (gx_pass (gx_thenN (hK450 _ _ ?_)))))))
 refine gx_seq (fun K454 hK455 => gx_block (gx_region (gx_kA (.slice A443 l445.length c444) w440 (gx_rA (st_made .i32 21 [127462, 32, 40, 49, 46] hS441 (by show 5 ≤ 1000000000; decide) (by as_aux_lemma => kernel_rfl)) ?_))))
 rintro _ w456 ⟨rfl, hS457⟩
 have hS457 : St _ _ w456 [rowE .i32 21 A443 c444 l445, rowE .i32 21 (some ⟨w440.heap.size, 0, none⟩) 5 ([127462, 32, 40, 49, 46])] := hS457
 refine gx_kA (i6 x446) w456 (gx_kA (i6 (Int.tmod x446 5)) w456 ?_)
 obtain ⟨x458, hx459, hL448⟩ := bind_in hL448
 refine gx_vA (pI (Int.tmod x446 5) (some ⟨w440.heap.size, 0, none⟩)) w456 (rix 21 .i64 hx459 ((hS457.row 1 rfl).1)) (gx_vA (.int .i32 x458) w456 (rlx (hS457.row 1 rfl).1 hx459) (gx_rA (st_made .i32 21 [x458] hS457 (by show 1 ≤ 1000000000; decide) (by as_aux_lemma => kernel_rfl)) ?_))
 rintro _ w460 ⟨rfl, hS461⟩
 have hS461 : St _ _ w460 [rowE .i32 21 A443 c444 l445, rowE .i32 21 (some ⟨w440.heap.size, 0, none⟩) 5 ([127462, 32, 40, 49, 46]), rowE .i32 21 (some ⟨w456.heap.size, 0, none⟩) 1 ([x458])] := hS461
 obtain ⟨l462, ha463, hL448⟩ := bind_in hL448
 obtain ⟨ha463, hq464⟩ := apx_in ha463
 refine gx_rA (st_append rfl (by as_aux_lemma => kernel_rfl) (by as_aux_lemma => kernel_rfl) hS461 0 rfl (hS461.row 2 rfl).1 (hS461.row 2 rfl).2 ha463 (by as_aux_lemma => kernel_rfl) (by as_aux_lemma => kernel_rfl)) ?_
 rintro _ w467 ⟨A465, c466, rfl, hS468⟩
 rw [← hq464] at hS468 ⊢
 have hS468 : St _ _ w467 [rowE .i32 21 A465 c466 l462, rowE .i32 21 (some ⟨w440.heap.size, 0, none⟩) 5 ([127462, 32, 40, 49, 46]), rowE .i32 21 (some ⟨w456.heap.size, 0, none⟩) 1 ([x458])] := hS468
 refine gx_kA (.slice A465 l462.length c466) w467 (gx_nil (gx_blkN (gx_thenN (hK455 _ _ (gx_region (gx_kA (i6 x446) w467 (gx_kA (i6 (iw (x446 + 1))) w467 (gx_kA (i6 (iw (x446 + 1))) w467 (gx_nil ?_)))))))))
 refine gx_thenN ?_
 exact ⟨k447, Nat.lt_succ_self k447, l462, (iw (x446 + 1)), A465, c466, selfX, hL448, (hS468.pick [0] rfl rfl)⟩
 refine gx_vA (.bool false) w440 (rbE (decide_eq_false h453)) (gx_nil (gx_thenN (hK452 _ _ (gx_no (by as_aux_lemma => kernel_rfl) (gx_exit (gx_thenE (gx_thenE ?_)))))))
 refine gx_blkE (gx_thenN ?_)
 exact ⟨l445, A443, c444, selfX, (sj hL448), hS441⟩
 rintro _ w428 ⟨l433, A431, c432, hq508, rfl, hS429⟩
 obtain ⟨u430, rfl⟩ := selfA_u hq508
 try dsimp only at hO436
 refine gx_seq (fun K470 hK471 => gx_region ?_)
 obtain ⟨c476, hE477, hO478⟩ := bind_in hO436
 refine gx_part (l1 := [_, _, _, _]) (fun a w => ∃ (b475 : Bool), selfA (fun u474 => ⟨((u339 0) :: (.bool b6) :: (.bool b143) :: dd u339 3 3 ((.slice A431 l433.length c432) :: (u430 7) :: dd u5 8 31 (dd u142 39 43 (dd u339 82 65 (dd u430 147 12 (dd u474 159 3 ((.bool b475) :: un 11 ([])))))))).toArray, []⟩) a ∧ b475 = c476 ∧ St [] w0 w [rowE .i32 21 A431 c432 l433]) rfl ?_ ?_
 refine gx_kA (.bool b6) w428 (gx_kA (.bool b6) w428 ?_)
 rcases b6 with _ | _
 try dsimp only at hE477
 refine gx_oA (gx_kA (.bool false) w428 (gx_nil (gx_thenN ?_)))
 exact ⟨false, selfX, (sj hE477), hS429⟩
 try dsimp only at hE477
 refine gx_kA (.bool b143) w428 (gx_kA (.bool b143) w428 (gx_nil (gx_thenN ?_)))
 exact ⟨b143, selfX, (sj hE477), hS429⟩
 rintro _ w472 ⟨b475, hq479, rfl, hS473⟩
 obtain ⟨u474, rfl⟩ := selfA_u hq479
 try dsimp only at hO478
 obtain ⟨c484, hE485, hO486⟩ := bind_in hO478
 refine gx_part (l1 := [_, _, _, _]) (fun a w => ∃ (b483 : Bool), selfA (fun u482 => ⟨((u339 0) :: (.bool b6) :: (.bool b143) :: dd u339 3 3 ((u482 6) :: (u430 7) :: dd u5 8 31 (dd u142 39 43 (dd u339 82 65 (dd u430 147 12 (dd u474 159 3 ((.bool b475) :: dd u482 163 3 ((.bool b483) :: un 7 ([]))))))))).toArray, []⟩) a ∧ b483 = c484 ∧ St [] w0 w []) rfl ?_ ?_
 refine gx_kA (.bool b475) w472 ?_
 rcases b475 with _ | _
 try dsimp only at hE485
 refine gx_oA (gx_oA (gx_kA (.bool false) w472 (gx_nil (gx_thenN ?_))))
 exact ⟨false, selfX, (sj hE485), (hS473.pick [] rfl rfl)⟩
 try dsimp only at hE485
 refine gx_kA (.slice A431 l433.length c432) w472 ?_
 have hP488 : St _ _ w472 ([] ++ [rowE .i32 21 A431 c432 l433]) := hS473
 obtain ⟨b490, hc489, hE485⟩ := bind_in hE485
 try dsimp only at hE485
 refine gx_cA _ (fBreaks_ok N l433 A431 c432 _ hc489 w472 (hP488.vwB 0 rfl)) ?_
 rintro _ w491 ⟨rfl, hT493⟩
 have hS492 : St _ _ w491 [rowE .i32 21 A431 c432 l433] := hS473.take _ hT493
 refine gx_kA (.bool b490) w491 (gx_nil (gx_thenN ?_))
 exact ⟨b490, selfX, (sj hE485), (hS492.pick [] rfl rfl)⟩
 rintro _ w480 ⟨b483, hq487, rfl, hS481⟩
 obtain ⟨u482, rfl⟩ := selfA_u hq487
 try dsimp only at hO486
 refine gx_kA (.bool b483) w480 ?_
 rcases b483 with _ | _
 try dsimp only at hO486
 refine gx_oA (gx_oA (gx_kA (.bool false) w480 (gx_kA (.bool false) w480 (gx_oA (gx_kA (.bool false) w480 (gx_kA (.bool false) w480 (gx_nil (gx_thenN (hK471 _ _ (gx_ret ?_))))))))))
 obtain rfl := sj hO486
 exact gxF (.bool false) ⟨_, rfl, rfl, hS481⟩
 try dsimp only at hO486
 refine gx_rA (st_made .i32 21 [97, 45, 1488, 32, 8205, 49] hS481 (by show 6 ≤ 1000000000; decide) (by as_aux_lemma => kernel_rfl)) ?_
 rintro _ w494 ⟨rfl, hS495⟩
 have hS495 : St _ _ w494 [rowE .i32 21 (some ⟨w480.heap.size, 0, none⟩) 6 ([97, 45, 1488, 32, 8205, 49])] := hS495
 have hP496 : St _ _ w494 ([] ++ [rowE .i32 21 (some ⟨w480.heap.size, 0, none⟩) 6 ([97, 45, 1488, 32, 8205, 49])]) := hS495
 obtain ⟨b498, hc497, hO486⟩ := bind_in hO486
 try dsimp only at hO486
 refine gx_cA _ (fMarks_ok N ([97, 45, 1488, 32, 8205, 49]) (2 : Int) (some ⟨w480.heap.size, 0, none⟩) 6 _ hc497 w494 (hP496.vwB 0 rfl)) ?_
 rintro _ w499 ⟨rfl, hT501⟩
 have hS500 : St _ _ w499 [rowE .i32 21 (some ⟨w480.heap.size, 0, none⟩) 6 ([97, 45, 1488, 32, 8205, 49])] := hS495.take _ hT501
 refine gx_kA (.bool b498) w499 (gx_kA (.bool b498) w499 ?_)
 rcases b498 with _ | _
 try dsimp only at hO486
 refine gx_oA (gx_kA (.bool false) w499 (gx_kA (.bool false) w499 (gx_nil (gx_thenN (hK471 _ _ (gx_ret ?_))))))
 obtain rfl := sj hO486
 exact gxF (.bool false) ⟨_, rfl, rfl, (hS500.pick [] rfl rfl)⟩
 try dsimp only at hO486
 have hP502 : St _ _ w499 ([] ++ [rowE .i32 21 (some ⟨w480.heap.size, 0, none⟩) 6 ([97, 45, 1488, 32, 8205, 49])]) := hS500
 obtain ⟨b504, hc503, hO486⟩ := bind_in hO486
 try dsimp only at hO486
 refine gx_cA _ (kWorks_ok N  _ hc503 w499 ) ?_
 rintro _ w505 ⟨rfl, hT507⟩
 have hS506 : St _ _ w505 [rowE .i32 21 (some ⟨w480.heap.size, 0, none⟩) 6 ([97, 45, 1488, 32, 8205, 49])] := hS500.take _ hT507
 refine gx_kA (.bool b504) w505 (gx_kA (.bool b504) w505 (gx_nil (gx_thenN (hK471 _ _ (gx_ret ?_)))))
 obtain rfl := sj hO486
 exact gxF (.bool b504) ⟨_, rfl, rfl, (hS506.pick [] rfl rfl)⟩
end Go.Proofs.YtdbimchiecdkoaaGreat
