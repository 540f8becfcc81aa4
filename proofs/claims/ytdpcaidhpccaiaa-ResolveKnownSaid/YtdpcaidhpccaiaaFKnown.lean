/-
  ResolveKnown, walked.
-/
import Derived.Test.YtdpcaidhpccaiaaFNeutral
import Derived.Test.YtdpcaidhpccaiaaFLevels
import Derived.Test.YtdpcaidhpccaiaaFEnds
namespace Go.Proofs.Ytdpcaidhpccaiaa
open Go Go.RowKit
set_option linter.unusedVariables false

def fKnown_L2 (N : Nat) (x195 : Int) : Nat → Int → Option (Ctl (Unit) (Bool))
 | 0, _ => none
 | k215+1, x214 => (if x214 ≤ 24 then ((fNeutral N ([x195, 14, x214]) x195 x195 x214).bind fun b230 => (((match b230 with | true => ((fNeutral N ([14, x195, x214, 13]) x214 (2 : Int) (1 : Int)).bind fun b246 => (match b246 with | true => some (false) | false => some (true))) | false => some (true)) : Option (Bool)).bind fun b237 => (((match b237 with | true => some (true) | false => ((fLevels N ([x195, x214]) (0 : Int)).bind fun b262 => (match b262 with | true => some (false) | false => some (true)))) : Option (Bool)).bind fun b253 => (((match b253 with | true => some (true) | false => ((fLevels N ([x195, x214]) (255 : Int)).bind fun b278 => (match b278 with | true => some (false) | false => some (true)))) : Option (Bool)).bind fun b269 => (match b269 with | true => some (Ctl.ret false) | false => ((fEnds N ([x195, 14, 10, x214]) (1 : Int) (2 : Int) (2 : Int)).bind fun b288 => (match b288 with | true => fKnown_L2 N x195 k215 (IntKind.u8.wrap (x214 + 1)) | false => some (Ctl.ret false)))))))) else some (Ctl.go ()))
def fKnown_L1 (N : Nat) : Nat → Int → Option (Ctl (Unit) (Bool))
 | 0, _ => none
 | k196+1, x195 => (if x195 ≤ 24 then ((fKnown_L2 N x195 N 0 : Option (Ctl (Unit) (Bool))).bind fun | Ctl.go () => fKnown_L1 N k196 (IntKind.u8.wrap (x195 + 1)) | Ctl.ret r => some (Ctl.ret r)) else some (Ctl.go ()))
def fKnown (N : Nat) : Option (Bool) :=
 ((pNeutral N ([2, 10, 14, 10, 2]) (0 : Int) (1 : Int) (1 : Int)).bind fun l11 => ((((pNeutral N ([14]) (1 : Int) (1 : Int) (1 : Int)).bind fun l28 => ((((kIs N l28 ([1])).bind fun b46 => (match b46 with | true => ((pLvl N ([1]) (1 : Int)).bind fun l54 => ((some (((strOfNums l54).toList == (⟨#[2]⟩ : ByteArray).toList))).bind fun b60 => some (b60))) | false => some (false))) : Option (Bool)).bind fun b39 => (((match b39 with | true => ((pNeutral N ([21, 23, 11]) (0 : Int) (2 : Int) (2 : Int)).bind fun l74 => ((kIs N l74 ([2, 2, 2])).bind fun b84 => some (b84))) | false => some (false)) : Option (Bool)).bind fun b65 => (((match b65 with | true => ((kIs N l11 ([2, 10, 2, 10, 2])).bind fun b100 => some (b100)) | false => some (false)) : Option (Bool)).bind fun b91 => (((match b91 with | true => ((pLvl N l11 (0 : Int)).bind fun l114 => ((some (((strOfNums l114).toList == (⟨#[1, 0, 1, 0, 1]⟩ : ByteArray).toList))).bind fun b120 => some (b120))) | false => some (false)) : Option (Bool)).bind fun b107 => (((match b107 with | true => ((pNeutral N ([14, 14]) (0 : Int) (2 : Int) (1 : Int)).bind fun l134 => ((kIs N l134 ([1, 1])).bind fun b144 => some (b144))) | false => some (false)) : Option (Bool)).bind fun b125 => (((match b125 with | true => ((pNeutral N ([4, 14, 7]) (0 : Int) (1 : Int) (1 : Int)).bind fun l160 => ((kIs N l160 ([4, 2, 7])).bind fun b170 => some (b170))) | false => some (false)) : Option (Bool)).bind fun b151 => (match b151 with | true => ((pNeutral N ([]) (0 : Int) (1 : Int) (1 : Int)).bind fun l177 => (if ((l177.length : Nat) : Int) = 0 then some (true) else some (false))) | false => some (false))))))))) : Option (Bool)).bind fun b20 => ((fKnown_L1 N N 0 : Option (Ctl (Unit) (Bool))).bind fun | Ctl.go () => (match b20 with | true => ((kWorks N ).bind fun b301 => some b301) | false => some false) | Ctl.ret r => some r)))

set_option linter.unusedVariables false in
def fKnown_R (r : Bool) (w0 : World) (v : Value) (w : World) : Prop := v = .bool r ∧ St [] w0 w []

set_option maxRecDepth 100000 in
set_option maxHeartbeats 4000000 in
theorem fKnown_ok (N : Nat)  (r : Bool) (hF : fKnown N = some r) (w0 : World)  :
  Calls Try.prog 14 #[] w0 fun e w => ∃ v, e = .returned v ∧ fKnown_R r w0 v w := by
 have hS0 := St.start w0
 unfold fKnown at hF
 refine calls_of Try.func14 rfl ⟨(un 146 ([])).toArray, []⟩ (by kernel_rfl) ?_
 refine gx_seq (fun K1 hK2 => ?_)
 refine gx_region ?_
 refine gx_k (.bool false) w0 ?_
 refine gx_nil ?_
 refine gx_thenN ?_
 refine hK2 _ _ ?_
 refine gx_seq (fun K3 hK4 => ?_)
 refine gx_region ?_
 refine gx_k (.int .u8 1) w0 (gx_k (.int .u8 2) w0 (gx_k (.int .u8 14) w0 (gx_k (.int .u8 10) w0 ?_)))
 refine gx_nil ?_
 refine gx_thenN ?_
 refine hK4 _ _ ?_
 refine gx_seq (fun K5 hK6 => ?_)
 refine gx_region ?_
 refine gx_k (.int .u8 2) w0 (gx_k (.int .u8 10) w0 (gx_k (.int .u8 14) w0 (gx_k (.int .u8 10) w0 (gx_k (.int .u8 2) w0 ?_))))
 refine gx_r (st_made .u8 23 [2, 10, 14, 10, 2] hS0 (by show 5 ≤ 1000000000; decide) (by kernel_rfl)) ?_
 rintro _ w7 ⟨rfl, hS8⟩
 have hS8 : St _ _ w7 [rowE .u8 23 (some ⟨w0.heap.size, 0, none⟩) 5 ([2, 10, 14, 10, 2])] := hS8
 refine gx_k (.int .u8 1) w7 (gx_k (.int .u8 1) w7 ?_)
 have hP9 : St _ _ w7 ([] ++ [rowE .u8 23 (some ⟨w0.heap.size, 0, none⟩) 5 ([2, 10, 14, 10, 2])]) := hS8
 obtain ⟨l11, hc10, hF⟩ := bind_in hF
 try dsimp only at hF
 refine gx_c (pNeutral_R l11 w7) (pNeutral_ok N ([2, 10, 14, 10, 2]) (0 : Int) (1 : Int) (1 : Int) (some ⟨w0.heap.size, 0, none⟩) 5 _ hc10 w7 (hP9.vwB 0 rfl)) ?_
 rintro _ w14 ⟨A12, c13, rfl, hT16⟩
 have hS15 : St _ _ w14 [rowE .u8 23 (some ⟨w0.heap.size, 0, none⟩) 5 ([2, 10, 14, 10, 2]), rowE .u8 23 A12 c13 l11] := hS8.take _ hT16
 refine gx_k (.slice A12 l11.length c13) w14 ?_
 refine gx_nil ?_
 refine gx_thenN ?_
 refine hK6 _ _ ?_
 obtain ⟨c21, hE22, hO23⟩ := bind_in hF
 refine gx_cut (fun a w => ∃ (b20 : Bool), selfA (fun u19 => ⟨((.bool false) :: (.int .u8 1) :: (.int .u8 2) :: (.int .u8 14) :: (.int .u8 10) :: (u19 5) :: (.bool b20) :: undef :: undef :: (.int .u8 2) :: (.int .u8 10) :: (.int .u8 14) :: (.int .u8 10) :: (.int .u8 2) :: (u19 14) :: (.int .u8 1) :: (.int .u8 1) :: dd u19 17 72 (un 57 ([]))).toArray, []⟩) a ∧ b20 = c21 ∧ St [] w0 w []) ?_ ?_
 ·refine gx_region ?_
  refine gx_k (.int .u8 14) w14 ?_
  refine gx_r (st_made .u8 23 [14] hS15 (by show 1 ≤ 1000000000; decide) (by kernel_rfl)) ?_
  rintro _ w24 ⟨rfl, hS25⟩
  have hS25 : St _ _ w24 [rowE .u8 23 (some ⟨w0.heap.size, 0, none⟩) 5 ([2, 10, 14, 10, 2]), rowE .u8 23 A12 c13 l11, rowE .u8 23 (some ⟨w14.heap.size, 0, none⟩) 1 ([14])] := hS25
  refine gx_k (.int .u8 1) w24 (gx_k (.int .u8 1) w24 ?_)
  have hP26 : St _ _ w24 ([] ++ [rowE .u8 23 (some ⟨w0.heap.size, 0, none⟩) 5 ([2, 10, 14, 10, 2]), rowE .u8 23 A12 c13 l11, rowE .u8 23 (some ⟨w14.heap.size, 0, none⟩) 1 ([14])]) := hS25
  obtain ⟨l28, hc27, hE22⟩ := bind_in hE22
  try dsimp only at hE22
  refine gx_c (pNeutral_R l28 w24) (pNeutral_ok N ([14]) (1 : Int) (1 : Int) (1 : Int) (some ⟨w14.heap.size, 0, none⟩) 1 _ hc27 w24 (hP26.vwB 2 rfl)) ?_
  rintro _ w31 ⟨A29, c30, rfl, hT33⟩
  have hS32 : St _ _ w31 [rowE .u8 23 (some ⟨w0.heap.size, 0, none⟩) 5 ([2, 10, 14, 10, 2]), rowE .u8 23 A12 c13 l11, rowE .u8 23 (some ⟨w14.heap.size, 0, none⟩) 1 ([14]), rowE .u8 23 A29 c30 l28] := hS25.take _ hT33
  refine gx_k (.int .u8 1) w31 ?_
  refine gx_r (st_made .u8 23 [1] hS32 (by show 1 ≤ 1000000000; decide) (by kernel_rfl)) ?_
  rintro _ w34 ⟨rfl, hS35⟩
  have hS35 : St _ _ w34 [rowE .u8 23 (some ⟨w0.heap.size, 0, none⟩) 5 ([2, 10, 14, 10, 2]), rowE .u8 23 A12 c13 l11, rowE .u8 23 (some ⟨w14.heap.size, 0, none⟩) 1 ([14]), rowE .u8 23 A29 c30 l28, rowE .u8 23 (some ⟨w31.heap.size, 0, none⟩) 1 ([1])] := hS35
  obtain ⟨c40, hE41, hO42⟩ := bind_in hE22
  refine gx_part (l1 := [_, _, _, _, _, _, _, _]) (fun a w => ∃ (b39 : Bool), selfA (fun u38 => ⟨((.bool false) :: (.int .u8 1) :: (.int .u8 2) :: (.int .u8 14) :: (.int .u8 10) :: (.slice A12 l11.length c13) :: un 3 ((.int .u8 2) :: (.int .u8 10) :: (.int .u8 14) :: (.int .u8 10) :: (.int .u8 2) :: (u38 14) :: (.int .u8 1) :: (.int .u8 1) :: (u38 17) :: (.int .u8 14) :: (u38 19) :: (.int .u8 1) :: (.int .u8 1) :: (u38 22) :: (.int .u8 1) :: dd u38 24 8 ((.bool b39) :: un 113 ([])))).toArray, []⟩) a ∧ b39 = c40 ∧ St [] w0 w [rowE .u8 23 A12 c13 l11]) rfl ?_ ?_
  ·have hP44 : St _ _ w34 ([] ++ [rowE .u8 23 (some ⟨w0.heap.size, 0, none⟩) 5 ([2, 10, 14, 10, 2]), rowE .u8 23 A12 c13 l11, rowE .u8 23 (some ⟨w14.heap.size, 0, none⟩) 1 ([14]), rowE .u8 23 A29 c30 l28, rowE .u8 23 (some ⟨w31.heap.size, 0, none⟩) 1 ([1])]) := hS35
   obtain ⟨b46, hc45, hE41⟩ := bind_in hE41
   try dsimp only at hE41
   refine gx_c (kIs_R b46 w34) (kIs_ok N l28 ([1]) A29 c30 (some ⟨w31.heap.size, 0, none⟩) 1 _ hc45 w34 (hP44.vwB 3 rfl) (hP44.vwB 4 rfl)) ?_
   rintro _ w47 ⟨rfl, hT49⟩
   have hS48 : St _ _ w47 [rowE .u8 23 (some ⟨w0.heap.size, 0, none⟩) 5 ([2, 10, 14, 10, 2]), rowE .u8 23 A12 c13 l11, rowE .u8 23 (some ⟨w14.heap.size, 0, none⟩) 1 ([14]), rowE .u8 23 A29 c30 l28, rowE .u8 23 (some ⟨w31.heap.size, 0, none⟩) 1 ([1])] := hS35.take _ hT49
   refine gx_k (.bool b46) w47 ?_
   cases b46 with
   | true =>
    try dsimp only at hE41
    refine gx_k (.int .u8 1) w47 ?_
    refine gx_r (st_made .u8 23 [1] hS48 (by show 1 ≤ 1000000000; decide) (by kernel_rfl)) ?_
    rintro _ w50 ⟨rfl, hS51⟩
    have hS51 : St _ _ w50 [rowE .u8 23 (some ⟨w0.heap.size, 0, none⟩) 5 ([2, 10, 14, 10, 2]), rowE .u8 23 A12 c13 l11, rowE .u8 23 (some ⟨w14.heap.size, 0, none⟩) 1 ([14]), rowE .u8 23 A29 c30 l28, rowE .u8 23 (some ⟨w31.heap.size, 0, none⟩) 1 ([1]), rowE .u8 23 (some ⟨w47.heap.size, 0, none⟩) 1 ([1])] := hS51
    have hP52 : St _ _ w50 ([] ++ [rowE .u8 23 (some ⟨w0.heap.size, 0, none⟩) 5 ([2, 10, 14, 10, 2]), rowE .u8 23 A12 c13 l11, rowE .u8 23 (some ⟨w14.heap.size, 0, none⟩) 1 ([14]), rowE .u8 23 A29 c30 l28, rowE .u8 23 (some ⟨w31.heap.size, 0, none⟩) 1 ([1]), rowE .u8 23 (some ⟨w47.heap.size, 0, none⟩) 1 ([1])]) := hS51
    obtain ⟨l54, hc53, hE41⟩ := bind_in hE41
    try dsimp only at hE41
    refine gx_c (pLvl_R l54 w50) (pLvl_ok N ([1]) (1 : Int) (some ⟨w47.heap.size, 0, none⟩) 1 _ hc53 w50 (hP52.vwB 5 rfl)) ?_
    rintro _ w57 ⟨A55, c56, rfl, hT59⟩
    have hS58 : St _ _ w57 [rowE .u8 23 (some ⟨w0.heap.size, 0, none⟩) 5 ([2, 10, 14, 10, 2]), rowE .u8 23 A12 c13 l11, rowE .u8 23 (some ⟨w14.heap.size, 0, none⟩) 1 ([14]), rowE .u8 23 A29 c30 l28, rowE .u8 23 (some ⟨w31.heap.size, 0, none⟩) 1 ([1]), rowE .u8 23 (some ⟨w47.heap.size, 0, none⟩) 1 ([1]), rowE .u8 5 A55 c56 l54] := hS51.take _ hT59
    refine gx_v (.string (strOfNums l54)) w57 (run_conv rfl (by kernel_rfl) (conv_b _ _ _ (hS58.row 6 rfl).1)) ?_
    obtain ⟨b60, h61, hE41⟩ := bind_in hE41
    refine gx_v (.bool b60) w57 (run_boolE (Option.some.inj h61) (by kernel_rfl)) ?_
    refine gx_k (.bool b60) w57 ?_
    refine gx_nil ?_
    refine gx_thenN ?_
    exact ⟨b60, selfA_i (by kernel_rfl), (Option.some.inj hE41), (hS58.pick [1] rfl rfl)⟩
   | false =>
    try dsimp only at hE41
    refine gx_o (gx_o (gx_o (gx_o (gx_o (gx_k (.bool false) w47 ?_)))))
    refine gx_nil ?_
    refine gx_thenN ?_
    exact ⟨false, selfA_i (by kernel_rfl), (Option.some.inj hE41), (hS48.pick [1] rfl rfl)⟩
  ·rintro _ w36 ⟨b39, hq43, rfl, hS37⟩
   obtain ⟨u38, rfl⟩ := selfA_u hq43
   try dsimp only at hO42
   obtain ⟨c66, hE67, hO68⟩ := bind_in hO42
   refine gx_part (l1 := [_, _, _, _, _, _, _, _, _, _, _]) (fun a w => ∃ (b65 : Bool), selfA (fun u64 => ⟨((.bool false) :: (.int .u8 1) :: (.int .u8 2) :: (.int .u8 14) :: (.int .u8 10) :: (.slice A12 l11.length c13) :: un 3 ((.int .u8 2) :: (.int .u8 10) :: (.int .u8 14) :: (.int .u8 10) :: (.int .u8 2) :: (u38 14) :: (.int .u8 1) :: (.int .u8 1) :: (u38 17) :: (.int .u8 14) :: (u38 19) :: (.int .u8 1) :: (.int .u8 1) :: (u38 22) :: (.int .u8 1) :: dd u38 24 8 ((.bool b39) :: dd u64 33 10 ((.bool b65) :: un 102 ([]))))).toArray, []⟩) a ∧ b65 = c66 ∧ St [] w0 w [rowE .u8 23 A12 c13 l11]) rfl ?_ ?_
   ·refine gx_k (.bool b39) w36 ?_
    cases b39 with
    | true =>
     try dsimp only at hE67
     refine gx_r (st_made .u8 23 [21, 23, 11] hS37 (by show 3 ≤ 1000000000; decide) (by kernel_rfl)) ?_
     rintro _ w70 ⟨rfl, hS71⟩
     have hS71 : St _ _ w70 [rowE .u8 23 A12 c13 l11, rowE .u8 23 (some ⟨w36.heap.size, 0, none⟩) 3 ([21, 23, 11])] := hS71
     refine gx_k (.int .u8 2) w70 (gx_k (.int .u8 2) w70 ?_)
     have hP72 : St _ _ w70 ([] ++ [rowE .u8 23 A12 c13 l11, rowE .u8 23 (some ⟨w36.heap.size, 0, none⟩) 3 ([21, 23, 11])]) := hS71
     obtain ⟨l74, hc73, hE67⟩ := bind_in hE67
     try dsimp only at hE67
     refine gx_c (pNeutral_R l74 w70) (pNeutral_ok N ([21, 23, 11]) (0 : Int) (2 : Int) (2 : Int) (some ⟨w36.heap.size, 0, none⟩) 3 _ hc73 w70 (hP72.vwB 1 rfl)) ?_
     rintro _ w77 ⟨A75, c76, rfl, hT79⟩
     have hS78 : St _ _ w77 [rowE .u8 23 A12 c13 l11, rowE .u8 23 (some ⟨w36.heap.size, 0, none⟩) 3 ([21, 23, 11]), rowE .u8 23 A75 c76 l74] := hS71.take _ hT79
     refine gx_k (.int .u8 2) w77 (gx_k (.int .u8 2) w77 (gx_k (.int .u8 2) w77 ?_))
     refine gx_r (st_made .u8 23 [2, 2, 2] hS78 (by show 3 ≤ 1000000000; decide) (by kernel_rfl)) ?_
     rintro _ w80 ⟨rfl, hS81⟩
     have hS81 : St _ _ w80 [rowE .u8 23 A12 c13 l11, rowE .u8 23 (some ⟨w36.heap.size, 0, none⟩) 3 ([21, 23, 11]), rowE .u8 23 A75 c76 l74, rowE .u8 23 (some ⟨w77.heap.size, 0, none⟩) 3 ([2, 2, 2])] := hS81
     have hP82 : St _ _ w80 ([] ++ [rowE .u8 23 A12 c13 l11, rowE .u8 23 (some ⟨w36.heap.size, 0, none⟩) 3 ([21, 23, 11]), rowE .u8 23 A75 c76 l74, rowE .u8 23 (some ⟨w77.heap.size, 0, none⟩) 3 ([2, 2, 2])]) := hS81
     obtain ⟨b84, hc83, hE67⟩ := bind_in hE67
     try dsimp only at hE67
     refine gx_c (kIs_R b84 w80) (kIs_ok N l74 ([2, 2, 2]) A75 c76 (some ⟨w77.heap.size, 0, none⟩) 3 _ hc83 w80 (hP82.vwB 2 rfl) (hP82.vwB 3 rfl)) ?_
     rintro _ w85 ⟨rfl, hT87⟩
     have hS86 : St _ _ w85 [rowE .u8 23 A12 c13 l11, rowE .u8 23 (some ⟨w36.heap.size, 0, none⟩) 3 ([21, 23, 11]), rowE .u8 23 A75 c76 l74, rowE .u8 23 (some ⟨w77.heap.size, 0, none⟩) 3 ([2, 2, 2])] := hS81.take _ hT87
     refine gx_k (.bool b84) w85 ?_
     refine gx_nil ?_
     refine gx_thenN ?_
     exact ⟨b84, selfA_i (by kernel_rfl), (Option.some.inj hE67), (hS86.pick [0] rfl rfl)⟩
    | false =>
     try dsimp only at hE67
     refine gx_o (gx_o (gx_o (gx_o (gx_o (gx_o (gx_o (gx_o ?_)))))))
     refine gx_o (gx_k (.bool false) w36 ?_)
     refine gx_nil ?_
     refine gx_thenN ?_
     exact ⟨false, selfA_i (by kernel_rfl), (Option.some.inj hE67), hS37⟩
   ·rintro _ w62 ⟨b65, hq69, rfl, hS63⟩
    obtain ⟨u64, rfl⟩ := selfA_u hq69
    try dsimp only at hO68
    obtain ⟨c92, hE93, hO94⟩ := bind_in hO68
    refine gx_part (l1 := [_, _, _, _, _, _, _, _, _, _]) (fun a w => ∃ (b91 : Bool), selfA (fun u90 => ⟨((.bool false) :: (.int .u8 1) :: (.int .u8 2) :: (.int .u8 14) :: (.int .u8 10) :: (.slice A12 l11.length c13) :: un 3 ((.int .u8 2) :: (.int .u8 10) :: (.int .u8 14) :: (.int .u8 10) :: (.int .u8 2) :: (u38 14) :: (.int .u8 1) :: (.int .u8 1) :: (u38 17) :: (.int .u8 14) :: (u38 19) :: (.int .u8 1) :: (.int .u8 1) :: (u38 22) :: (.int .u8 1) :: dd u38 24 8 ((.bool b39) :: dd u64 33 10 ((.bool b65) :: dd u90 44 9 ((.bool b91) :: un 92 ([])))))).toArray, []⟩) a ∧ b91 = c92 ∧ St [] w0 w [rowE .u8 23 A12 c13 l11]) rfl ?_ ?_
    ·refine gx_k (.bool b65) w62 ?_
     cases b65 with
     | true =>
      try dsimp only at hE93
      refine gx_k (.slice A12 l11.length c13) w62 (gx_k (.int .u8 2) w62 (gx_k (.int .u8 10) w62 (gx_k (.int .u8 2) w62 (gx_k (.int .u8 10) w62 (gx_k (.int .u8 2) w62 ?_)))))
      refine gx_r (st_made .u8 23 [2, 10, 2, 10, 2] hS63 (by show 5 ≤ 1000000000; decide) (by kernel_rfl)) ?_
      rintro _ w96 ⟨rfl, hS97⟩
      have hS97 : St _ _ w96 [rowE .u8 23 A12 c13 l11, rowE .u8 23 (some ⟨w62.heap.size, 0, none⟩) 5 ([2, 10, 2, 10, 2])] := hS97
      have hP98 : St _ _ w96 ([] ++ [rowE .u8 23 A12 c13 l11, rowE .u8 23 (some ⟨w62.heap.size, 0, none⟩) 5 ([2, 10, 2, 10, 2])]) := hS97
      obtain ⟨b100, hc99, hE93⟩ := bind_in hE93
      try dsimp only at hE93
      refine gx_c (kIs_R b100 w96) (kIs_ok N l11 ([2, 10, 2, 10, 2]) A12 c13 (some ⟨w62.heap.size, 0, none⟩) 5 _ hc99 w96 (hP98.vwB 0 rfl) (hP98.vwB 1 rfl)) ?_
      rintro _ w101 ⟨rfl, hT103⟩
      have hS102 : St _ _ w101 [rowE .u8 23 A12 c13 l11, rowE .u8 23 (some ⟨w62.heap.size, 0, none⟩) 5 ([2, 10, 2, 10, 2])] := hS97.take _ hT103
      refine gx_k (.bool b100) w101 ?_
      refine gx_nil ?_
      refine gx_thenN ?_
      exact ⟨b100, selfA_i (by kernel_rfl), (Option.some.inj hE93), (hS102.pick [0] rfl rfl)⟩
     | false =>
      try dsimp only at hE93
      refine gx_o (gx_o (gx_o (gx_o (gx_o (gx_o (gx_o (gx_o ?_)))))))
      refine gx_k (.bool false) w62 ?_
      refine gx_nil ?_
      refine gx_thenN ?_
      exact ⟨false, selfA_i (by kernel_rfl), (Option.some.inj hE93), hS63⟩
    ·rintro _ w88 ⟨b91, hq95, rfl, hS89⟩
     obtain ⟨u90, rfl⟩ := selfA_u hq95
     try dsimp only at hO94
     obtain ⟨c108, hE109, hO110⟩ := bind_in hO94
     refine gx_part (l1 := [_, _, _, _, _, _]) (fun a w => ∃ (b107 : Bool), selfA (fun u106 => ⟨((.bool false) :: (.int .u8 1) :: (.int .u8 2) :: (.int .u8 14) :: (.int .u8 10) :: (u106 5) :: un 3 ((.int .u8 2) :: (.int .u8 10) :: (.int .u8 14) :: (.int .u8 10) :: (.int .u8 2) :: (u38 14) :: (.int .u8 1) :: (.int .u8 1) :: (u38 17) :: (.int .u8 14) :: (u38 19) :: (.int .u8 1) :: (.int .u8 1) :: (u38 22) :: (.int .u8 1) :: dd u38 24 8 ((.bool b39) :: dd u64 33 10 ((.bool b65) :: dd u90 44 9 ((.bool b91) :: dd u106 54 5 ((.bool b107) :: un 86 ([]))))))).toArray, []⟩) a ∧ b107 = c108 ∧ St [] w0 w []) rfl ?_ ?_
     ·refine gx_k (.bool b91) w88 ?_
      cases b91 with
      | true =>
       try dsimp only at hE109
       refine gx_k (.slice A12 l11.length c13) w88 ?_
       have hP112 : St _ _ w88 ([] ++ [rowE .u8 23 A12 c13 l11]) := hS89
       obtain ⟨l114, hc113, hE109⟩ := bind_in hE109
       try dsimp only at hE109
       refine gx_c (pLvl_R l114 w88) (pLvl_ok N l11 (0 : Int) A12 c13 _ hc113 w88 (hP112.vwB 0 rfl)) ?_
       rintro _ w117 ⟨A115, c116, rfl, hT119⟩
       have hS118 : St _ _ w117 [rowE .u8 23 A12 c13 l11, rowE .u8 5 A115 c116 l114] := hS89.take _ hT119
       refine gx_v (.string (strOfNums l114)) w117 (run_conv rfl (by kernel_rfl) (conv_b _ _ _ (hS118.row 1 rfl).1)) ?_
       obtain ⟨b120, h121, hE109⟩ := bind_in hE109
       refine gx_v (.bool b120) w117 (run_boolE (Option.some.inj h121) (by kernel_rfl)) ?_
       refine gx_k (.bool b120) w117 ?_
       refine gx_nil ?_
       refine gx_thenN ?_
       exact ⟨b120, selfA_i (by kernel_rfl), (Option.some.inj hE109), (hS118.pick [] rfl rfl)⟩
      | false =>
       try dsimp only at hE109
       refine gx_o (gx_o (gx_o (gx_o (gx_k (.bool false) w88 ?_))))
       refine gx_nil ?_
       refine gx_thenN ?_
       exact ⟨false, selfA_i (by kernel_rfl), (Option.some.inj hE109), (hS89.pick [] rfl rfl)⟩
     ·rintro _ w104 ⟨b107, hq111, rfl, hS105⟩
      obtain ⟨u106, rfl⟩ := selfA_u hq111
      try dsimp only at hO110
      obtain ⟨c126, hE127, hO128⟩ := bind_in hO110
      refine gx_part (l1 := [_, _, _, _, _, _, _, _, _, _, _, _]) (fun a w => ∃ (b125 : Bool), selfA (fun u124 => ⟨((.bool false) :: (.int .u8 1) :: (.int .u8 2) :: (.int .u8 14) :: (.int .u8 10) :: (u106 5) :: un 3 ((.int .u8 2) :: (.int .u8 10) :: (.int .u8 14) :: (.int .u8 10) :: (.int .u8 2) :: (u38 14) :: (.int .u8 1) :: (.int .u8 1) :: (u38 17) :: (.int .u8 14) :: (u38 19) :: (.int .u8 1) :: (.int .u8 1) :: (u38 22) :: (.int .u8 1) :: dd u38 24 8 ((.bool b39) :: dd u64 33 10 ((.bool b65) :: dd u90 44 9 ((.bool b91) :: dd u106 54 5 ((.bool b107) :: dd u124 60 11 ((.bool b125) :: un 74 ([])))))))).toArray, []⟩) a ∧ b125 = c126 ∧ St [] w0 w []) rfl ?_ ?_
      ·refine gx_k (.bool b107) w104 ?_
       cases b107 with
       | true =>
        try dsimp only at hE127
        refine gx_k (.int .u8 14) w104 (gx_k (.int .u8 14) w104 ?_)
        refine gx_r (st_made .u8 23 [14, 14] hS105 (by show 2 ≤ 1000000000; decide) (by kernel_rfl)) ?_
        rintro _ w130 ⟨rfl, hS131⟩
        have hS131 : St _ _ w130 [rowE .u8 23 (some ⟨w104.heap.size, 0, none⟩) 2 ([14, 14])] := hS131
        refine gx_k (.int .u8 2) w130 (gx_k (.int .u8 1) w130 ?_)
        have hP132 : St _ _ w130 ([] ++ [rowE .u8 23 (some ⟨w104.heap.size, 0, none⟩) 2 ([14, 14])]) := hS131
        obtain ⟨l134, hc133, hE127⟩ := bind_in hE127
        try dsimp only at hE127
        refine gx_c (pNeutral_R l134 w130) (pNeutral_ok N ([14, 14]) (0 : Int) (2 : Int) (1 : Int) (some ⟨w104.heap.size, 0, none⟩) 2 _ hc133 w130 (hP132.vwB 0 rfl)) ?_
        rintro _ w137 ⟨A135, c136, rfl, hT139⟩
        have hS138 : St _ _ w137 [rowE .u8 23 (some ⟨w104.heap.size, 0, none⟩) 2 ([14, 14]), rowE .u8 23 A135 c136 l134] := hS131.take _ hT139
        refine gx_k (.int .u8 1) w137 (gx_k (.int .u8 1) w137 ?_)
        refine gx_r (st_made .u8 23 [1, 1] hS138 (by show 2 ≤ 1000000000; decide) (by kernel_rfl)) ?_
        rintro _ w140 ⟨rfl, hS141⟩
        have hS141 : St _ _ w140 [rowE .u8 23 (some ⟨w104.heap.size, 0, none⟩) 2 ([14, 14]), rowE .u8 23 A135 c136 l134, rowE .u8 23 (some ⟨w137.heap.size, 0, none⟩) 2 ([1, 1])] := hS141
        have hP142 : St _ _ w140 ([] ++ [rowE .u8 23 (some ⟨w104.heap.size, 0, none⟩) 2 ([14, 14]), rowE .u8 23 A135 c136 l134, rowE .u8 23 (some ⟨w137.heap.size, 0, none⟩) 2 ([1, 1])]) := hS141
        obtain ⟨b144, hc143, hE127⟩ := bind_in hE127
        try dsimp only at hE127
        refine gx_c (kIs_R b144 w140) (kIs_ok N l134 ([1, 1]) A135 c136 (some ⟨w137.heap.size, 0, none⟩) 2 _ hc143 w140 (hP142.vwB 1 rfl) (hP142.vwB 2 rfl)) ?_
        rintro _ w145 ⟨rfl, hT147⟩
        have hS146 : St _ _ w145 [rowE .u8 23 (some ⟨w104.heap.size, 0, none⟩) 2 ([14, 14]), rowE .u8 23 A135 c136 l134, rowE .u8 23 (some ⟨w137.heap.size, 0, none⟩) 2 ([1, 1])] := hS141.take _ hT147
        refine gx_k (.bool b144) w145 ?_
        refine gx_nil ?_
        refine gx_thenN ?_
        exact ⟨b144, selfA_i (by kernel_rfl), (Option.some.inj hE127), (hS146.pick [] rfl rfl)⟩
       | false =>
        try dsimp only at hE127
        refine gx_o (gx_o (gx_o (gx_o (gx_o (gx_o (gx_o (gx_o ?_)))))))
        refine gx_o (gx_o (gx_k (.bool false) w104 ?_))
        refine gx_nil ?_
        refine gx_thenN ?_
        exact ⟨false, selfA_i (by kernel_rfl), (Option.some.inj hE127), hS105⟩
      ·rintro _ w122 ⟨b125, hq129, rfl, hS123⟩
       obtain ⟨u124, rfl⟩ := selfA_u hq129
       try dsimp only at hO128
       obtain ⟨c152, hE153, hO154⟩ := bind_in hO128
       refine gx_part (l1 := [_, _, _, _, _, _, _, _, _, _]) (fun a w => ∃ (b151 : Bool), selfA (fun u150 => ⟨((.bool false) :: (.int .u8 1) :: (.int .u8 2) :: (.int .u8 14) :: (.int .u8 10) :: (u106 5) :: un 3 ((.int .u8 2) :: (.int .u8 10) :: (.int .u8 14) :: (.int .u8 10) :: (.int .u8 2) :: (u38 14) :: (.int .u8 1) :: (.int .u8 1) :: (u38 17) :: (.int .u8 14) :: (u38 19) :: (.int .u8 1) :: (.int .u8 1) :: (u38 22) :: (.int .u8 1) :: dd u38 24 8 ((.bool b39) :: dd u64 33 10 ((.bool b65) :: dd u90 44 9 ((.bool b91) :: dd u106 54 5 ((.bool b107) :: dd u124 60 11 ((.bool b125) :: dd u150 72 9 ((.bool b151) :: un 64 ([]))))))))).toArray, []⟩) a ∧ b151 = c152 ∧ St [] w0 w []) rfl ?_ ?_
       ·refine gx_k (.bool b125) w122 ?_
        cases b125 with
        | true =>
         try dsimp only at hE153
         refine gx_k (.int .u8 14) w122 ?_
         refine gx_r (st_made .u8 23 [4, 14, 7] hS123 (by show 3 ≤ 1000000000; decide) (by kernel_rfl)) ?_
         rintro _ w156 ⟨rfl, hS157⟩
         have hS157 : St _ _ w156 [rowE .u8 23 (some ⟨w122.heap.size, 0, none⟩) 3 ([4, 14, 7])] := hS157
         refine gx_k (.int .u8 1) w156 (gx_k (.int .u8 1) w156 ?_)
         have hP158 : St _ _ w156 ([] ++ [rowE .u8 23 (some ⟨w122.heap.size, 0, none⟩) 3 ([4, 14, 7])]) := hS157
         obtain ⟨l160, hc159, hE153⟩ := bind_in hE153
         try dsimp only at hE153
         refine gx_c (pNeutral_R l160 w156) (pNeutral_ok N ([4, 14, 7]) (0 : Int) (1 : Int) (1 : Int) (some ⟨w122.heap.size, 0, none⟩) 3 _ hc159 w156 (hP158.vwB 0 rfl)) ?_
         rintro _ w163 ⟨A161, c162, rfl, hT165⟩
         have hS164 : St _ _ w163 [rowE .u8 23 (some ⟨w122.heap.size, 0, none⟩) 3 ([4, 14, 7]), rowE .u8 23 A161 c162 l160] := hS157.take _ hT165
         refine gx_k (.int .u8 2) w163 ?_
         refine gx_r (st_made .u8 23 [4, 2, 7] hS164 (by show 3 ≤ 1000000000; decide) (by kernel_rfl)) ?_
         rintro _ w166 ⟨rfl, hS167⟩
         have hS167 : St _ _ w166 [rowE .u8 23 (some ⟨w122.heap.size, 0, none⟩) 3 ([4, 14, 7]), rowE .u8 23 A161 c162 l160, rowE .u8 23 (some ⟨w163.heap.size, 0, none⟩) 3 ([4, 2, 7])] := hS167
         have hP168 : St _ _ w166 ([] ++ [rowE .u8 23 (some ⟨w122.heap.size, 0, none⟩) 3 ([4, 14, 7]), rowE .u8 23 A161 c162 l160, rowE .u8 23 (some ⟨w163.heap.size, 0, none⟩) 3 ([4, 2, 7])]) := hS167
         obtain ⟨b170, hc169, hE153⟩ := bind_in hE153
         try dsimp only at hE153
         refine gx_c (kIs_R b170 w166) (kIs_ok N l160 ([4, 2, 7]) A161 c162 (some ⟨w163.heap.size, 0, none⟩) 3 _ hc169 w166 (hP168.vwB 1 rfl) (hP168.vwB 2 rfl)) ?_
         rintro _ w171 ⟨rfl, hT173⟩
         have hS172 : St _ _ w171 [rowE .u8 23 (some ⟨w122.heap.size, 0, none⟩) 3 ([4, 14, 7]), rowE .u8 23 A161 c162 l160, rowE .u8 23 (some ⟨w163.heap.size, 0, none⟩) 3 ([4, 2, 7])] := hS167.take _ hT173
         refine gx_k (.bool b170) w171 ?_
         refine gx_nil ?_
         refine gx_thenN ?_
         exact ⟨b170, selfA_i (by kernel_rfl), (Option.some.inj hE153), (hS172.pick [] rfl rfl)⟩
        | false =>
         try dsimp only at hE153
         refine gx_o (gx_o (gx_o (gx_o (gx_o (gx_o (gx_o (gx_o ?_)))))))
         refine gx_k (.bool false) w122 ?_
         refine gx_nil ?_
         refine gx_thenN ?_
         exact ⟨false, selfA_i (by kernel_rfl), (Option.some.inj hE153), hS123⟩
       ·rintro _ w148 ⟨b151, hq155, rfl, hS149⟩
        obtain ⟨u150, rfl⟩ := selfA_u hq155
        try dsimp only at hO154
        refine gx_k (.bool b151) w148 ?_
        cases b151 with
        | true =>
         try dsimp only at hO154
         refine gx_k (.int .u8 1) w148 (gx_k (.int .u8 1) w148 ?_)
         have hS174 : St _ _ w148 [rowE .u8 23 none 0 ([])] := hS149.nilrow .u8 23
         have hP175 : St _ _ w148 ([] ++ [rowE .u8 23 none 0 ([])]) := hS174
         obtain ⟨l177, hc176, hO154⟩ := bind_in hO154
         try dsimp only at hO154
         refine gx_c (pNeutral_R l177 w148) (pNeutral_ok N ([]) (0 : Int) (1 : Int) (1 : Int) none 0 _ hc176 w148 (hP175.vwB 0 rfl)) ?_
         rintro _ w180 ⟨A178, c179, rfl, hT182⟩
         have hS181 : St _ _ w180 [rowE .u8 23 none 0 ([]), rowE .u8 23 A178 c179 l177] := hS174.take _ hT182
         refine gx_k (.int .i64 ((l177.length : Nat) : Int)) w180 ?_
         rcases if_in hO154 with ⟨h183, hO154⟩ | ⟨h183, hO154⟩
         ·refine gx_v (.bool true) w180 (run_boolE (decide_eq_true h183) (by kernel_rfl)) ?_
          refine gx_k (.bool true) w180 (gx_k (.bool true) w180 ?_)
          refine gx_nil ?_
          refine gx_thenN ?_
          exact ⟨true, selfA_i (by kernel_rfl), (Option.some.inj hO154), (hS181.pick [] rfl rfl)⟩
         ·refine gx_v (.bool false) w180 (run_boolE (decide_eq_false h183) (by kernel_rfl)) ?_
          refine gx_k (.bool false) w180 (gx_k (.bool false) w180 ?_)
          refine gx_nil ?_
          refine gx_thenN ?_
          exact ⟨false, selfA_i (by kernel_rfl), (Option.some.inj hO154), (hS181.pick [] rfl rfl)⟩
        | false =>
         try dsimp only at hO154
         refine gx_o (gx_o (gx_o (gx_o (gx_o (gx_k (.bool false) w148 (gx_k (.bool false) w148 ?_))))))
         refine gx_nil ?_
         refine gx_thenN ?_
         exact ⟨false, selfA_i (by kernel_rfl), (Option.some.inj hO154), hS149⟩
 ·rintro _ w17 ⟨b20, hq306, rfl, hS18⟩
  obtain ⟨u19, rfl⟩ := selfA_u hq306
  try dsimp only at hO23
  obtain ⟨c187, hE188, hO189⟩ := bind_in hO23
  refine gx_cut (fun a w => selfA (fun u186 => ⟨((u186 0) :: (.int .u8 1) :: (.int .u8 2) :: (.int .u8 14) :: (.int .u8 10) :: (u19 5) :: (.bool b20) :: dd u186 7 2 ((.int .u8 2) :: (.int .u8 10) :: (.int .u8 14) :: (.int .u8 10) :: (.int .u8 2) :: (u19 14) :: (.int .u8 1) :: (.int .u8 1) :: dd u19 17 72 (dd u186 89 53 (un 4 ([]))))).toArray, []⟩) a ∧ Ctl.go () = c187 ∧ St [] w0 w []) ?_ ?_
  ·refine gx_seq (fun K190 hK191 => ?_)
   refine gx_region ?_
   refine gx_k (.int .u8 0) w17 ?_
   refine gx_nil ?_
   refine gx_thenN ?_
   refine hK191 _ _ ?_
   refine gx_block ?_
   refine gx_loop (fun k a w => ∃ (x195 : Int), selfA (fun u194 => ⟨((u194 0) :: (.int .u8 1) :: (.int .u8 2) :: (.int .u8 14) :: (.int .u8 10) :: (u19 5) :: (.bool b20) :: (.int .u8 x195) :: (u194 8) :: (.int .u8 2) :: (.int .u8 10) :: (.int .u8 14) :: (.int .u8 10) :: (.int .u8 2) :: (u19 14) :: (.int .u8 1) :: (.int .u8 1) :: dd u19 17 72 (dd u194 89 53 (un 4 ([])))).toArray, []⟩) a ∧ fKnown_L1 N k x195 = some c187 ∧ St [] w0 w []) N ?_ ?_
   ·exact ⟨0, selfA_i (by kernel_rfl), hE188, hS18⟩
   ·rintro k196 _ w192 ⟨x195, hq296, hL197, hS193⟩
    obtain ⟨u194, rfl⟩ := selfA_u hq296
    cases k196 with
    | zero => cases hL197
    | succ k196 =>
     first | rw [fKnown_L1] at hL197 | unfold fKnown_L1 at hL197
     refine gx_seq (fun K198 hK199 => ?_)
     refine gx_seq (fun K200 hK201 => ?_)
     refine gx_region ?_
     refine gx_k (.int .u8 x195) w192 ?_
     rcases if_in hL197 with ⟨h202, hL197⟩ | ⟨h202, hL197⟩
     ·refine gx_v (.bool true) w192 (run_boolE (decide_eq_true h202) (by kernel_rfl)) ?_
      refine gx_nil ?_
      refine gx_thenN ?_
      refine hK201 _ _ ?_
      refine gx_yes (by kernel_rfl) ?_
      refine gx_pass ?_
      refine gx_thenN ?_
      refine hK199 _ _ ?_
      obtain ⟨c206, hE207, hO208⟩ := bind_in hL197
      refine gx_cut (fun a w => selfA (fun u205 => ⟨((u205 0) :: (.int .u8 1) :: (.int .u8 2) :: (.int .u8 14) :: (.int .u8 10) :: (u19 5) :: (.bool b20) :: (.int .u8 x195) :: (u205 8) :: (.int .u8 2) :: (.int .u8 10) :: (.int .u8 14) :: (.int .u8 10) :: (.int .u8 2) :: (u19 14) :: (.int .u8 1) :: (.int .u8 1) :: dd u19 17 72 ((.int .u8 x195) :: (.bool true) :: dd u194 91 2 (dd u205 93 49 (un 4 ([]))))).toArray, []⟩) a ∧ Ctl.go () = c206 ∧ St [] w0 w []) ?_ ?_
      ·refine gx_block ?_
       refine gx_seq (fun K209 hK210 => ?_)
       refine gx_region ?_
       refine gx_k (.int .u8 0) w192 ?_
       refine gx_nil ?_
       refine gx_thenN ?_
       refine hK210 _ _ ?_
       refine gx_block ?_
       refine gx_loop (fun k a w => ∃ (x214 : Int), selfA (fun u213 => ⟨((u213 0) :: (.int .u8 1) :: (.int .u8 2) :: (.int .u8 14) :: (.int .u8 10) :: (u19 5) :: (.bool b20) :: (.int .u8 x195) :: (.int .u8 x214) :: (.int .u8 2) :: (.int .u8 10) :: (.int .u8 14) :: (.int .u8 10) :: (.int .u8 2) :: (u19 14) :: (.int .u8 1) :: (.int .u8 1) :: dd u19 17 72 ((.int .u8 x195) :: (.bool true) :: dd u194 91 2 (dd u213 93 49 (un 4 ([]))))).toArray, []⟩) a ∧ fKnown_L2 N x195 k x214 = some c206 ∧ St [] w0 w []) N ?_ ?_
       ·exact ⟨0, selfA_i (by kernel_rfl), hE207, hS193⟩
       ·rintro k215 _ w211 ⟨x214, hq294, hL216, hS212⟩
        obtain ⟨u213, rfl⟩ := selfA_u hq294
        cases k215 with
        | zero => cases hL216
        | succ k215 =>
         first | rw [fKnown_L2] at hL216 | unfold fKnown_L2 at hL216
         refine gx_seq (fun K217 hK218 => ?_)
         refine gx_seq (fun K219 hK220 => ?_)
         refine gx_region ?_
         refine gx_k (.int .u8 x214) w211 ?_
         rcases if_in hL216 with ⟨h221, hL216⟩ | ⟨h221, hL216⟩
         ·refine gx_v (.bool true) w211 (run_boolE (decide_eq_true h221) (by kernel_rfl)) ?_
          refine gx_nil ?_
          refine gx_thenN ?_
          refine hK220 _ _ ?_
          refine gx_yes (by kernel_rfl) ?_
          refine gx_pass ?_
          refine gx_thenN ?_
          refine hK218 _ _ ?_
          refine gx_seq (fun K222 hK223 => ?_)
          refine gx_block ?_
          refine gx_seq (fun K224 hK225 => ?_)
          refine gx_region ?_
          refine gx_k (.int .u8 x195) w211 (gx_k (.int .u8 14) w211 (gx_k (.int .u8 x214) w211 ?_))
          refine gx_r (st_made .u8 23 [x195, 14, x214] hS212 (by show 3 ≤ 1000000000; decide) (by kernel_rfl)) ?_
          rintro _ w226 ⟨rfl, hS227⟩
          have hS227 : St _ _ w226 [rowE .u8 23 (some ⟨w211.heap.size, 0, none⟩) 3 ([x195, 14, x214])] := hS227
          refine gx_k (.int .u8 x195) w226 (gx_k (.int .u8 x195) w226 (gx_k (.int .u8 x214) w226 ?_))
          have hP228 : St _ _ w226 ([] ++ [rowE .u8 23 (some ⟨w211.heap.size, 0, none⟩) 3 ([x195, 14, x214])]) := hS227
          obtain ⟨b230, hc229, hL216⟩ := bind_in hL216
          try dsimp only at hL216
          refine gx_c (fNeutral_R b230 w226) (fNeutral_ok N ([x195, 14, x214]) x195 x195 x214 (some ⟨w211.heap.size, 0, none⟩) 3 _ hc229 w226 (hP228.vwB 0 rfl)) ?_
          rintro _ w231 ⟨rfl, hT233⟩
          have hS232 : St _ _ w231 [rowE .u8 23 (some ⟨w211.heap.size, 0, none⟩) 3 ([x195, 14, x214])] := hS227.take _ hT233
          obtain ⟨c238, hE239, hO240⟩ := bind_in hL216
          refine gx_part (l1 := [_, _, _, _, _, _, _, _, _, _, _, _]) (fun a w => ∃ (b237 : Bool), selfA (fun u236 => ⟨((u213 0) :: (.int .u8 1) :: (.int .u8 2) :: (.int .u8 14) :: (.int .u8 10) :: (u19 5) :: (.bool b20) :: (.int .u8 x195) :: (.int .u8 x214) :: (.int .u8 2) :: (.int .u8 10) :: (.int .u8 14) :: (.int .u8 10) :: (.int .u8 2) :: (u19 14) :: (.int .u8 1) :: (.int .u8 1) :: dd u19 17 72 ((.int .u8 x195) :: (.bool true) :: dd u194 91 2 ((.int .u8 x214) :: (.bool true) :: dd u213 95 2 ((.int .u8 x195) :: (.int .u8 14) :: (.int .u8 x214) :: (u236 100) :: (.int .u8 x195) :: (.int .u8 x195) :: (.int .u8 x214) :: (.bool b230) :: dd u236 105 11 ((.bool b237) :: dd u213 117 25 (un 4 ([]))))))).toArray, []⟩) a ∧ b237 = c238 ∧ St [] w0 w []) rfl ?_ ?_
          ·cases b230 with
           | true =>
            try dsimp only at hE239
            refine gx_k (.bool false) w231 (gx_k (.bool false) w231 (gx_k (.int .u8 14) w231 (gx_k (.int .u8 x195) w231 (gx_k (.int .u8 x214) w231 ?_))))
            refine gx_r (st_made .u8 23 [14, x195, x214, 13] hS232 (by show 4 ≤ 1000000000; decide) (by kernel_rfl)) ?_
            rintro _ w242 ⟨rfl, hS243⟩
            have hS243 : St _ _ w242 [rowE .u8 23 (some ⟨w211.heap.size, 0, none⟩) 3 ([x195, 14, x214]), rowE .u8 23 (some ⟨w231.heap.size, 0, none⟩) 4 ([14, x195, x214, 13])] := hS243
            refine gx_k (.int .u8 x214) w242 (gx_k (.int .u8 2) w242 (gx_k (.int .u8 1) w242 ?_))
            have hP244 : St _ _ w242 ([] ++ [rowE .u8 23 (some ⟨w211.heap.size, 0, none⟩) 3 ([x195, 14, x214]), rowE .u8 23 (some ⟨w231.heap.size, 0, none⟩) 4 ([14, x195, x214, 13])]) := hS243
            obtain ⟨b246, hc245, hE239⟩ := bind_in hE239
            try dsimp only at hE239
            refine gx_c (fNeutral_R b246 w242) (fNeutral_ok N ([14, x195, x214, 13]) x214 (2 : Int) (1 : Int) (some ⟨w231.heap.size, 0, none⟩) 4 _ hc245 w242 (hP244.vwB 1 rfl)) ?_
            rintro _ w247 ⟨rfl, hT249⟩
            have hS248 : St _ _ w247 [rowE .u8 23 (some ⟨w211.heap.size, 0, none⟩) 3 ([x195, 14, x214]), rowE .u8 23 (some ⟨w231.heap.size, 0, none⟩) 4 ([14, x195, x214, 13])] := hS243.take _ hT249
            cases b246 with
            | true =>
             try dsimp only at hE239
             refine gx_k (.bool false) w247 (gx_k (.bool false) w247 ?_)
             refine gx_nil ?_
             refine gx_thenN ?_
             exact ⟨false, selfA_i (by kernel_rfl), (Option.some.inj hE239), (hS248.pick [] rfl rfl)⟩
            | false =>
             try dsimp only at hE239
             refine gx_k (.bool true) w247 (gx_k (.bool true) w247 ?_)
             refine gx_nil ?_
             refine gx_thenN ?_
             exact ⟨true, selfA_i (by kernel_rfl), (Option.some.inj hE239), (hS248.pick [] rfl rfl)⟩
           | false =>
            try dsimp only at hE239
            refine gx_k (.bool true) w231 (gx_k (.bool true) w231 (gx_o (gx_o (gx_o (gx_o (gx_o (gx_o ?_)))))))
            refine gx_o (gx_o (gx_o (gx_k (.bool true) w231 ?_)))
            refine gx_nil ?_
            refine gx_thenN ?_
            exact ⟨true, selfA_i (by kernel_rfl), (Option.some.inj hE239), (hS232.pick [] rfl rfl)⟩
          ·rintro _ w234 ⟨b237, hq241, rfl, hS235⟩
           obtain ⟨u236, rfl⟩ := selfA_u hq241
           try dsimp only at hO240
           obtain ⟨c254, hE255, hO256⟩ := bind_in hO240
           refine gx_part (l1 := [_, _, _, _, _, _, _]) (fun a w => ∃ (b253 : Bool), selfA (fun u252 => ⟨((u213 0) :: (.int .u8 1) :: (.int .u8 2) :: (.int .u8 14) :: (.int .u8 10) :: (u19 5) :: (.bool b20) :: (.int .u8 x195) :: (.int .u8 x214) :: (.int .u8 2) :: (.int .u8 10) :: (.int .u8 14) :: (.int .u8 10) :: (.int .u8 2) :: (u19 14) :: (.int .u8 1) :: (.int .u8 1) :: dd u19 17 72 ((.int .u8 x195) :: (.bool true) :: dd u194 91 2 ((.int .u8 x214) :: (.bool true) :: dd u213 95 2 ((.int .u8 x195) :: (.int .u8 14) :: (.int .u8 x214) :: (u236 100) :: (.int .u8 x195) :: (.int .u8 x195) :: (.int .u8 x214) :: (.bool b230) :: dd u236 105 11 ((.bool b237) :: dd u252 117 6 ((.bool b253) :: dd u213 124 18 (un 4 ([])))))))).toArray, []⟩) a ∧ b253 = c254 ∧ St [] w0 w []) rfl ?_ ?_
           ·refine gx_k (.bool b237) w234 ?_
            cases b237 with
            | true =>
             try dsimp only at hE255
             refine gx_o (gx_o (gx_o (gx_o (gx_o (gx_k (.bool true) w234 ?_)))))
             refine gx_nil ?_
             refine gx_thenN ?_
             exact ⟨true, selfA_i (by kernel_rfl), (Option.some.inj hE255), hS235⟩
            | false =>
             try dsimp only at hE255
             refine gx_k (.int .u8 x195) w234 (gx_k (.int .u8 x214) w234 ?_)
             refine gx_r (st_made .u8 23 [x195, x214] hS235 (by show 2 ≤ 1000000000; decide) (by kernel_rfl)) ?_
             rintro _ w258 ⟨rfl, hS259⟩
             have hS259 : St _ _ w258 [rowE .u8 23 (some ⟨w234.heap.size, 0, none⟩) 2 ([x195, x214])] := hS259
             have hP260 : St _ _ w258 ([] ++ [rowE .u8 23 (some ⟨w234.heap.size, 0, none⟩) 2 ([x195, x214])]) := hS259
             obtain ⟨b262, hc261, hE255⟩ := bind_in hE255
             try dsimp only at hE255
             refine gx_c (fLevels_R b262 w258) (fLevels_ok N ([x195, x214]) (0 : Int) (some ⟨w234.heap.size, 0, none⟩) 2 _ hc261 w258 (hP260.vwB 0 rfl)) ?_
             rintro _ w263 ⟨rfl, hT265⟩
             have hS264 : St _ _ w263 [rowE .u8 23 (some ⟨w234.heap.size, 0, none⟩) 2 ([x195, x214])] := hS259.take _ hT265
             cases b262 with
             | true =>
              try dsimp only at hE255
              refine gx_k (.bool false) w263 (gx_k (.bool false) w263 ?_)
              refine gx_nil ?_
              refine gx_thenN ?_
              exact ⟨false, selfA_i (by kernel_rfl), (Option.some.inj hE255), (hS264.pick [] rfl rfl)⟩
             | false =>
              try dsimp only at hE255
              refine gx_k (.bool true) w263 (gx_k (.bool true) w263 ?_)
              refine gx_nil ?_
              refine gx_thenN ?_
              exact ⟨true, selfA_i (by kernel_rfl), (Option.some.inj hE255), (hS264.pick [] rfl rfl)⟩
           ·rintro _ w250 ⟨b253, hq257, rfl, hS251⟩
            obtain ⟨u252, rfl⟩ := selfA_u hq257
            try dsimp only at hO256
            obtain ⟨c270, hE271, hO272⟩ := bind_in hO256
            refine gx_part (l1 := [_, _, _, _, _, _, _]) (fun a w => ∃ (b269 : Bool), selfA (fun u268 => ⟨((u213 0) :: (.int .u8 1) :: (.int .u8 2) :: (.int .u8 14) :: (.int .u8 10) :: (u19 5) :: (.bool b20) :: (.int .u8 x195) :: (.int .u8 x214) :: (.int .u8 2) :: (.int .u8 10) :: (.int .u8 14) :: (.int .u8 10) :: (.int .u8 2) :: (u19 14) :: (.int .u8 1) :: (.int .u8 1) :: dd u19 17 72 ((.int .u8 x195) :: (.bool true) :: dd u194 91 2 ((.int .u8 x214) :: (.bool true) :: dd u213 95 2 ((.int .u8 x195) :: (.int .u8 14) :: (.int .u8 x214) :: (u236 100) :: (.int .u8 x195) :: (.int .u8 x195) :: (.int .u8 x214) :: (.bool b230) :: dd u236 105 11 ((.bool b237) :: dd u252 117 6 ((.bool b253) :: dd u268 124 6 ((.bool b269) :: dd u213 131 11 (un 4 ([]))))))))).toArray, []⟩) a ∧ b269 = c270 ∧ St [] w0 w []) rfl ?_ ?_
            ·refine gx_k (.bool b253) w250 ?_
             cases b253 with
             | true =>
              try dsimp only at hE271
              refine gx_o (gx_o (gx_o (gx_o (gx_o (gx_k (.bool true) w250 ?_)))))
              refine gx_nil ?_
              refine gx_thenN ?_
              exact ⟨true, selfA_i (by kernel_rfl), (Option.some.inj hE271), hS251⟩
             | false =>
              try dsimp only at hE271
              refine gx_k (.int .u8 x195) w250 (gx_k (.int .u8 x214) w250 ?_)
              refine gx_r (st_made .u8 23 [x195, x214] hS251 (by show 2 ≤ 1000000000; decide) (by kernel_rfl)) ?_
              rintro _ w274 ⟨rfl, hS275⟩
              have hS275 : St _ _ w274 [rowE .u8 23 (some ⟨w250.heap.size, 0, none⟩) 2 ([x195, x214])] := hS275
              have hP276 : St _ _ w274 ([] ++ [rowE .u8 23 (some ⟨w250.heap.size, 0, none⟩) 2 ([x195, x214])]) := hS275
              obtain ⟨b278, hc277, hE271⟩ := bind_in hE271
              try dsimp only at hE271
              refine gx_c (fLevels_R b278 w274) (fLevels_ok N ([x195, x214]) (255 : Int) (some ⟨w250.heap.size, 0, none⟩) 2 _ hc277 w274 (hP276.vwB 0 rfl)) ?_
              rintro _ w279 ⟨rfl, hT281⟩
              have hS280 : St _ _ w279 [rowE .u8 23 (some ⟨w250.heap.size, 0, none⟩) 2 ([x195, x214])] := hS275.take _ hT281
              cases b278 with
              | true =>
               try dsimp only at hE271
               refine gx_k (.bool false) w279 (gx_k (.bool false) w279 ?_)
               refine gx_nil ?_
               refine gx_thenN ?_
               exact ⟨false, selfA_i (by kernel_rfl), (Option.some.inj hE271), (hS280.pick [] rfl rfl)⟩
              | false =>
               try dsimp only at hE271
               refine gx_k (.bool true) w279 (gx_k (.bool true) w279 ?_)
               refine gx_nil ?_
               refine gx_thenN ?_
               exact ⟨true, selfA_i (by kernel_rfl), (Option.some.inj hE271), (hS280.pick [] rfl rfl)⟩
            ·rintro _ w266 ⟨b269, hq273, rfl, hS267⟩
             obtain ⟨u268, rfl⟩ := selfA_u hq273
             try dsimp only at hO272
             refine gx_k (.bool b269) w266 ?_
             cases b269 with
             | true =>
              try dsimp only at hO272
              refine gx_o (gx_o (gx_o (gx_o (gx_o (gx_o (gx_o (gx_o ?_)))))))
              refine gx_o (gx_k (.bool true) w266 ?_)
              refine gx_nil ?_
              refine gx_thenN ?_
              refine hK225 _ _ ?_
              refine gx_yes (by kernel_rfl) ?_
              refine gx_seq (fun K282 hK283 => ?_)
              refine gx_region ?_
              refine gx_k (.bool false) w266 ?_
              refine gx_nil ?_
              refine gx_thenN ?_
              refine hK283 _ _ ?_
              refine gx_ret ?_
              refine gx_blkR ?_
              refine gx_thenR ?_
              refine gx_thenR ?_
              refine gx_blkR ?_
              refine gx_blkR ?_
              refine gx_thenR ?_
              obtain rfl := Option.some.inj hO272
              try dsimp only at hO208
              refine gx_thenR ?_
              refine gx_blkR ?_
              refine gx_thenR ?_
              obtain rfl := Option.some.inj hO208
              try dsimp only at hO189
              obtain rfl := Option.some.inj hO189
              exact gx_fin (.bool false) (by kernel_rfl) (by kernel_rfl) ⟨_, rfl, rfl, hS267⟩
             | false =>
              try dsimp only at hO272
              refine gx_k (.int .u8 x195) w266 (gx_k (.int .u8 14) w266 (gx_k (.int .u8 10) w266 (gx_k (.int .u8 x214) w266 ?_)))
              refine gx_r (st_made .u8 23 [x195, 14, 10, x214] hS267 (by show 4 ≤ 1000000000; decide) (by kernel_rfl)) ?_
              rintro _ w284 ⟨rfl, hS285⟩
              have hS285 : St _ _ w284 [rowE .u8 23 (some ⟨w266.heap.size, 0, none⟩) 4 ([x195, 14, 10, x214])] := hS285
              refine gx_k (.int .u8 2) w284 (gx_k (.int .u8 2) w284 ?_)
              have hP286 : St _ _ w284 ([] ++ [rowE .u8 23 (some ⟨w266.heap.size, 0, none⟩) 4 ([x195, 14, 10, x214])]) := hS285
              obtain ⟨b288, hc287, hO272⟩ := bind_in hO272
              try dsimp only at hO272
              refine gx_c (fEnds_R b288 w284) (fEnds_ok N ([x195, 14, 10, x214]) (1 : Int) (2 : Int) (2 : Int) (some ⟨w266.heap.size, 0, none⟩) 4 _ hc287 w284 (hP286.vwB 0 rfl)) ?_
              rintro _ w289 ⟨rfl, hT291⟩
              have hS290 : St _ _ w289 [rowE .u8 23 (some ⟨w266.heap.size, 0, none⟩) 4 ([x195, 14, 10, x214])] := hS285.take _ hT291
              cases b288 with
              | true =>
               try dsimp only at hO272
               refine gx_k (.bool false) w289 (gx_k (.bool false) w289 ?_)
               refine gx_nil ?_
               refine gx_thenN ?_
               refine hK225 _ _ ?_
               refine gx_no (by kernel_rfl) ?_
               refine gx_pass ?_
               refine gx_blkN ?_
               refine gx_thenN ?_
               refine hK223 _ _ ?_
               refine gx_region ?_
               refine gx_k (.int .u8 x214) w289 (gx_k (.int .u8 (IntKind.u8.wrap (x214 + 1))) w289 (gx_k (.int .u8 (IntKind.u8.wrap (x214 + 1))) w289 ?_))
               refine gx_nil ?_
               refine gx_thenN ?_
               exact ⟨k215, Nat.lt_succ_self k215, (IntKind.u8.wrap (x214 + 1)), selfA_i (by kernel_rfl), hO272, (hS290.pick [] rfl rfl)⟩
              | false =>
               try dsimp only at hO272
               refine gx_k (.bool true) w289 (gx_k (.bool true) w289 ?_)
               refine gx_nil ?_
               refine gx_thenN ?_
               refine hK225 _ _ ?_
               refine gx_yes (by kernel_rfl) ?_
               refine gx_seq (fun K292 hK293 => ?_)
               refine gx_region ?_
               refine gx_k (.bool false) w289 ?_
               refine gx_nil ?_
               refine gx_thenN ?_
               refine hK293 _ _ ?_
               refine gx_ret ?_
               refine gx_blkR ?_
               refine gx_thenR ?_
               refine gx_thenR ?_
               refine gx_blkR ?_
               refine gx_blkR ?_
               refine gx_thenR ?_
               obtain rfl := Option.some.inj hO272
               try dsimp only at hO208
               refine gx_thenR ?_
               refine gx_blkR ?_
               refine gx_thenR ?_
               obtain rfl := Option.some.inj hO208
               try dsimp only at hO189
               obtain rfl := Option.some.inj hO189
               exact gx_fin (.bool false) (by kernel_rfl) (by kernel_rfl) ⟨_, rfl, rfl, (hS290.pick [] rfl rfl)⟩
         ·refine gx_v (.bool false) w211 (run_boolE (decide_eq_false h221) (by kernel_rfl)) ?_
          refine gx_nil ?_
          refine gx_thenN ?_
          refine hK220 _ _ ?_
          refine gx_no (by kernel_rfl) ?_
          refine gx_exit ?_
          refine gx_thenE ?_
          refine gx_thenE ?_
          refine gx_blkE ?_
          refine gx_blkN ?_
          refine gx_thenN ?_
          exact ⟨selfA_i (by kernel_rfl), (Option.some.inj hL216), hS212⟩
      ·rintro _ w203 ⟨hq295, rfl, hS204⟩
       obtain ⟨u205, rfl⟩ := selfA_u hq295
       try dsimp only at hO208
       refine gx_region ?_
       refine gx_k (.int .u8 x195) w203 (gx_k (.int .u8 (IntKind.u8.wrap (x195 + 1))) w203 (gx_k (.int .u8 (IntKind.u8.wrap (x195 + 1))) w203 ?_))
       refine gx_nil ?_
       refine gx_thenN ?_
       exact ⟨k196, Nat.lt_succ_self k196, (IntKind.u8.wrap (x195 + 1)), selfA_i (by kernel_rfl), hO208, hS204⟩
     ·refine gx_v (.bool false) w192 (run_boolE (decide_eq_false h202) (by kernel_rfl)) ?_
      refine gx_nil ?_
      refine gx_thenN ?_
      refine hK201 _ _ ?_
      refine gx_no (by kernel_rfl) ?_
      refine gx_exit ?_
      refine gx_thenE ?_
      refine gx_thenE ?_
      refine gx_blkE ?_
      refine gx_thenN ?_
      exact ⟨selfA_i (by kernel_rfl), (Option.some.inj hL197), hS193⟩
  ·rintro _ w184 ⟨hq305, rfl, hS185⟩
   obtain ⟨u186, rfl⟩ := selfA_u hq305
   try dsimp only at hO189
   refine gx_seq (fun K297 hK298 => ?_)
   refine gx_region ?_
   refine gx_k (.bool b20) w184 (gx_k (.bool b20) w184 ?_)
   cases b20 with
   | true =>
    try dsimp only at hO189
    have hP299 : St _ _ w184 ([] ++ []) := hS185
    obtain ⟨b301, hc300, hO189⟩ := bind_in hO189
    try dsimp only at hO189
    refine gx_c (kWorks_R b301 w184) (kWorks_ok N  _ hc300 w184 ) ?_
    rintro _ w302 ⟨rfl, hT304⟩
    have hS303 : St _ _ w302 [] := hS185.take _ hT304
    refine gx_k (.bool b301) w302 (gx_k (.bool b301) w302 ?_)
    refine gx_nil ?_
    refine gx_thenN ?_
    refine hK298 _ _ ?_
    refine gx_ret ?_
    obtain rfl := Option.some.inj hO189
    exact gx_fin (.bool b301) (by kernel_rfl) (by kernel_rfl) ⟨_, rfl, rfl, hS303⟩
   | false =>
    try dsimp only at hO189
    refine gx_o (gx_k (.bool false) w184 (gx_k (.bool false) w184 ?_))
    refine gx_nil ?_
    refine gx_thenN ?_
    refine hK298 _ _ ?_
    refine gx_ret ?_
    obtain rfl := Option.some.inj hO189
    exact gx_fin (.bool false) (by kernel_rfl) (by kernel_rfl) ⟨_, rfl, rfl, hS185⟩

end Go.Proofs.Ytdpcaidhpccaiaa
