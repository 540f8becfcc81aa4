/-
  ResolvePairsKnown, walked.
-/
import Derived.Test.YtdfgecndbfmgnaaDoorFK0
namespace Go.Proofs.YtdfgecndbfmgnaaDoor
open Go Go.RowKit
set_option linter.unusedVariables false

def fPK_L1 (N : Nat) : Nat → (List Int) → Int → Option (List Int)
 | 0, _, _ => none
 | k202+1, l200, x201 => (if x201 < 70 then ((apx l200 ([40])).bind fun l213 => fPK_L1 N k202 l213 (IntKind.i64.wrap (x201 + 1))) else some (l200))
def fPK_L2 (N : Nat) : Nat → (List Int) → Int → Option (List Int)
 | 0, _, _ => none
 | k239+1, l237, x238 => (if x238 < 70 then ((apx l237 ([41])).bind fun l250 => fPK_L2 N k239 l250 (IntKind.i64.wrap (x238 + 1))) else some (l237))
def fPK (N : Nat) : Option (Bool) :=
 ((((((kBecome N (⟨#[215, 144, 40, 49, 41]⟩ : ByteArray) (0 : Int) (1 : Int) ([2, 2, 4, 2])).bind fun b24 => (match b24 with | true => ((kBecome N (⟨#[97, 40, 215, 144, 41]⟩ : ByteArray) (0 : Int) (1 : Int) ([1, 1, 2, 1])).bind fun b32 => some (b32)) | false => some (false))) : Option (Bool)).bind fun b17 => (((match b17 with | true => ((kBecome N (⟨#[215, 144, 40, 97, 41]⟩ : ByteArray) (1 : Int) (2 : Int) ([2, 2, 1, 2])).bind fun b48 => some (b48)) | false => some (false)) : Option (Bool)).bind fun b39 => (((match b39 with | true => ((kBecome N (⟨#[40, 33, 41]⟩ : ByteArray) (0 : Int) (1 : Int) ([14, 14, 14])).bind fun b64 => some (b64)) | false => some (false)) : Option (Bool)).bind fun b55 => (((match b55 with | true => ((kBecome N (⟨#[215, 144, 40, 215, 144, 41, 204, 129]⟩ : ByteArray) (0 : Int) (1 : Int) ([2, 2, 2, 2, 2])).bind fun b80 => some (b80)) | false => some (false)) : Option (Bool)).bind fun b71 => (((match b71 with | true => ((kBecome N (⟨#[40, 91, 41, 93, 97]⟩ : ByteArray) (0 : Int) (1 : Int) ([14, 14, 14, 14, 1])).bind fun b96 => some (b96)) | false => some (false)) : Option (Bool)).bind fun b87 => (((match b87 with | true => ((kBecome N (⟨#[40, 215, 144, 41]⟩ : ByteArray) (0 : Int) (2 : Int) ([2, 2, 2])).bind fun b112 => some (b112)) | false => some (false)) : Option (Bool)).bind fun b103 => (match b103 with | true => ((kBecome N (⟨#[40, 215, 144, 41]⟩ : ByteArray) (0 : Int) (1 : Int) ([1, 2, 1])).bind fun b120 => some (b120)) | false => some (false)))))))) : Option (Bool)).bind fun b8 => ((((((kBecome N (⟨#[226, 140, 169, 97, 227, 128, 137]⟩ : ByteArray) (0 : Int) (1 : Int) ([1, 1, 1])).bind fun b143 => (match b143 with | true => ((kBecome N (⟨#[40, 97, 93]⟩ : ByteArray) (0 : Int) (1 : Int) ([14, 1, 14])).bind fun b151 => some (b151)) | false => some (false))) : Option (Bool)).bind fun b136 => (((match b136 with | true => ((kBecome N (⟨#[97, 40, 215, 144, 91, 215, 145, 93, 41]⟩ : ByteArray) (1 : Int) (2 : Int) ([1, 2, 2, 2, 2, 2, 2])).bind fun b167 => some (b167)) | false => some (false)) : Option (Bool)).bind fun b158 => (match b158 with | true => ((kBecome N (⟨#[215, 144, 91, 97, 40, 215, 144, 41, 93]⟩ : ByteArray) (0 : Int) (1 : Int) ([2, 1, 1, 1, 2, 1, 1])).bind fun b175 => some (b175)) | false => some (false)))) : Option (Bool)).bind fun b127 => ((fPK_L1 N N ([]) 0 : Option (List Int)).bind fun l188 => ((fPK_L2 N N l188 0 : Option (List Int)).bind fun l226 => ((kClasses N l226).bind fun l262 => ((((pPrs N l226 l262).bind fun l282 => (if ((l282.length : Nat) : Int) = 0 then ((cutx l226 (7 : Int) 133).bind fun l300 => ((cutx l262 (7 : Int) 133).bind fun l306 => ((pPrs N l300 l306).bind fun l314 => (if ((l314.length : Nat) : Int) = 63 then ((fPairs N l226 l262 l262 (0 : Int) (1 : Int)).bind fun b334 => (match b334 with | true => ((cutx l226 (7 : Int) 133).bind fun l338 => ((cutx l262 (7 : Int) 133).bind fun l344 => ((cutx l262 (7 : Int) 133).bind fun l350 => ((fNests N l338 l344 l350 (1 : Int) (1 : Int)).bind fun b358 => some (b358))))) | false => some (false))) else some (false))))) else some (false))) : Option (Bool)).bind fun b274 => ((kClasses N ([40, 120, 41, 40, 40, 121, 41, 41])).bind fun l370 => ((mkx (65537 : Int)).bind fun lz19_381o0_1 => ((mkx (65537 : Int)).bind fun lz19_381o1_1 => ((mkx (65537 : Int)).bind fun lz19_381o2_1 => ((pPairs N lz19_381o0_1 lz19_381o1_1 lz19_381o2_1 (0 : Int) (1 : Int)).bind fun (_lz19_381o4_3, xz19_381o4_6) => ((cutx l370 (1 : Int) ((l370.length : Nat) : Int)).bind fun l389 => ((pPairs N ([40, 120, 41, 40, 40, 121, 41, 41]) l389 l370 (0 : Int) (1 : Int)).bind fun (_l397, x400) => ((pPairs N ([40, 120, 41, 40, 40, 121, 41, 41]) l370 ([]) (0 : Int) (1 : Int)).bind fun (_l409, x412) => ((((((fPairs N ([40, 120, 41, 40, 40, 121, 41, 41]) ([14, 1, 14, 9, 9, 14, 9, 10]) l370 (0 : Int) (1 : Int)).bind fun b433 => (match b433 with | true => ((fPairs N ([40, 120, 41, 40, 40, 121, 41, 41]) ([14, 1, 14, 9, 9, 14, 9, 10]) ([14, 1, 14, 9, 9, 14, 9, 10]) (1 : Int) (1 : Int)).bind fun b439 => some (b439)) | false => some (false))) : Option (Bool)).bind fun b426 => (((match b426 with | true => ((fNests N ([40, 120, 41, 40, 40, 121, 41, 41]) ([14, 1, 14, 9, 9, 14, 9, 10]) l370 (0 : Int) (2 : Int)).bind fun b453 => some (b453)) | false => some (false)) : Option (Bool)).bind fun b446 => (((match b446 with | true => (if xz19_381o4_6 = 3 then some (true) else some (false)) | false => some (false)) : Option (Bool)).bind fun b460 => (match b460 with | true => (if x400 = 2 then (if x412 = 2 then some (true) else some (false)) else some (false)) | false => some (false))))) : Option (Bool)).bind fun b419 => (((match b8 with | true => some (b127) | false => some (false)) : Option (Bool)).bind fun b473 => (((match b473 with | true => some (b274) | false => some (false)) : Option (Bool)).bind fun b481 => (match b481 with | true => (match b419 with | true => ((kAround N ).bind fun b488 => some b488) | false => some false) | false => some false))))))))))))))))))

set_option linter.unusedVariables false in
def fPK_R (r : Bool) (w0 : World) (v : Value) (w : World) : Prop := v = .bool r ∧ St [] w0 w []

set_option maxRecDepth 100000 in
set_option maxHeartbeats 4000000 in
theorem fPK_ok (N : Nat)  (r : Bool) (hF : fPK N = some r) (w0 : World) (hcd : MirW w0) :
  Calls Tryd.prog 4 #[] w0 fun e w => ∃ v, e = .returned v ∧ fPK_R r w0 v w := by
 have hS0 := (St.start w0).pool0
 unfold fPK at hF
 refine calls_of Tryd.func4 rfl ⟨(un 236 ([])).toArray, []⟩ (by as_aux_lemma => kernel_rfl) ?_
 refine gx_seq (fun K1 hK2 => ?_)
 refine gx_region ?_
 refine gx_kA (.bool false) w0 ?_
 refine gx_nil ?_
 refine gx_thenN ?_
 refine hK2 _ _ ?_
 refine gx_seq (fun K3 hK4 => ?_)
 refine gx_region ?_
 refine gx_kA (.int .u8 1) w0 (gx_kA (.int .u8 2) w0 (gx_kA (.int .u8 14) w0 ?_))
 refine gx_nil ?_
 refine gx_thenN ?_
 refine hK4 _ _ ?_
 obtain ⟨c9, hE10, hO11⟩ := bind_in hF
 refine gx_cut (fun a w => ∃ (b8 : Bool), selfA (fun u7 => ⟨((.bool false) :: (.int .u8 1) :: (.int .u8 2) :: (.int .u8 14) :: (.bool b8) :: un 16 (dd u7 21 60 (un 155 ([])))).toArray, []⟩) a ∧ b8 = c9 ∧ St [] w0 w [poolE ([]) w0]) ?_ ?_
 ·refine gx_region ?_
  refine gx_kA (.int .u8 2) w0 (gx_kA (.int .u8 2) w0 (gx_kA (.int .u8 2) w0 ?_))
  refine gx_rA (st_made .u8 33 [2, 2, 4, 2] hS0 (by show 4 ≤ 1000000000; decide) (by as_aux_lemma => kernel_rfl)) ?_
  rintro _ w12 ⟨rfl, hS13⟩
  have hS13 : St _ _ w12 [poolE ([]) w0, rowE .u8 33 (some ⟨w0.heap.size, 0, none⟩) 4 ([2, 2, 4, 2])] := hS13
  obtain ⟨c18, hE19, hO20⟩ := bind_in hE10
  refine gx_part (l1 := [_, _, _, _, _, _, _, _, _]) (fun a w => ∃ (b17 : Bool), selfA (fun u16 => ⟨((.bool false) :: (.int .u8 1) :: (.int .u8 2) :: (.int .u8 14) :: un 17 ((.int .u8 2) :: (.int .u8 2) :: (.int .u8 2) :: dd u16 24 9 ((.bool b17) :: un 202 ([])))).toArray, []⟩) a ∧ b17 = c18 ∧ St [] w0 w [poolE ([]) w0]) rfl ?_ ?_
  ·have hP22 : St _ _ w12 ([] ++ [poolE ([]) w0, rowE .u8 33 (some ⟨w0.heap.size, 0, none⟩) 4 ([2, 2, 4, 2])]) := hS13
   obtain ⟨b24, hc23, hE19⟩ := bind_in hE19
   try dsimp only at hE19
   refine gx_cA (kBecome_R b24 w12) (kBecome_ok N (⟨#[215, 144, 40, 49, 41]⟩ : ByteArray) (0 : Int) (1 : Int) ([2, 2, 4, 2]) (some ⟨w0.heap.size, 0, none⟩) 4 _ hc23 w12 (hP22.vwB 1 rfl) (MirW.at hcd hS13.below)) ?_
   rintro _ w25 ⟨rfl, hT27⟩
   have hS26 : St _ _ w25 [poolE ([]) w0, rowE .u8 33 (some ⟨w0.heap.size, 0, none⟩) 4 ([2, 2, 4, 2])] := hS13.take _ hT27
   refine gx_kA (.bool b24) w25 ?_
   cases b24 with
   | true =>
    try dsimp only at hE19
    refine gx_kA (.int .u8 1) w25 (gx_kA (.int .u8 1) w25 (gx_kA (.int .u8 2) w25 (gx_kA (.int .u8 1) w25 ?_)))
    refine gx_rA (st_made .u8 33 [1, 1, 2, 1] hS26 (by show 4 ≤ 1000000000; decide) (by as_aux_lemma => kernel_rfl)) ?_
    rintro _ w28 ⟨rfl, hS29⟩
    have hS29 : St _ _ w28 [poolE ([]) w0, rowE .u8 33 (some ⟨w0.heap.size, 0, none⟩) 4 ([2, 2, 4, 2]), rowE .u8 33 (some ⟨w25.heap.size, 0, none⟩) 4 ([1, 1, 2, 1])] := hS29
    have hP30 : St _ _ w28 ([] ++ [poolE ([]) w0, rowE .u8 33 (some ⟨w0.heap.size, 0, none⟩) 4 ([2, 2, 4, 2]), rowE .u8 33 (some ⟨w25.heap.size, 0, none⟩) 4 ([1, 1, 2, 1])]) := hS29
    obtain ⟨b32, hc31, hE19⟩ := bind_in hE19
    try dsimp only at hE19
    refine gx_cA (kBecome_R b32 w28) (kBecome_ok N (⟨#[97, 40, 215, 144, 41]⟩ : ByteArray) (0 : Int) (1 : Int) ([1, 1, 2, 1]) (some ⟨w25.heap.size, 0, none⟩) 4 _ hc31 w28 (hP30.vwB 2 rfl) (MirW.at hcd hS29.below)) ?_
    rintro _ w33 ⟨rfl, hT35⟩
    have hS34 : St _ _ w33 [poolE ([]) w0, rowE .u8 33 (some ⟨w0.heap.size, 0, none⟩) 4 ([2, 2, 4, 2]), rowE .u8 33 (some ⟨w25.heap.size, 0, none⟩) 4 ([1, 1, 2, 1])] := hS29.take _ hT35
    refine gx_kA (.bool b32) w33 ?_
    refine gx_nil ?_
    refine gx_thenN ?_
    exact ⟨b32, selfA_i (by as_aux_lemma => kernel_rfl), (Option.some.inj hE19), (hS34.pick [0] rfl rfl)⟩
   | false =>
    try dsimp only at hE19
    refine gx_oA (gx_oA (gx_oA (gx_oA (gx_oA (gx_oA (gx_kA (.bool false) w25 ?_))))))
    refine gx_nil ?_
    refine gx_thenN ?_
    exact ⟨false, selfA_i (by as_aux_lemma => kernel_rfl), (Option.some.inj hE19), (hS26.pick [0] rfl rfl)⟩
  ·rintro _ w14 ⟨b17, hq21, rfl, hS15⟩
   obtain ⟨u16, rfl⟩ := selfA_u hq21
   try dsimp only at hO20
   obtain ⟨c40, hE41, hO42⟩ := bind_in hO20
   refine gx_part (l1 := [_, _, _, _, _, _, _, _]) (fun a w => ∃ (b39 : Bool), selfA (fun u38 => ⟨((.bool false) :: (.int .u8 1) :: (.int .u8 2) :: (.int .u8 14) :: un 17 ((.int .u8 2) :: (.int .u8 2) :: (.int .u8 2) :: dd u16 24 9 ((.bool b17) :: dd u38 34 7 ((.bool b39) :: un 194 ([]))))).toArray, []⟩) a ∧ b39 = c40 ∧ St [] w0 w [poolE ([]) w0]) rfl ?_ ?_
   ·refine gx_kA (.bool b17) w14 ?_
    cases b17 with
    | true =>
     try dsimp only at hE41
     refine gx_kA (.int .u8 2) w14 (gx_kA (.int .u8 2) w14 (gx_kA (.int .u8 1) w14 (gx_kA (.int .u8 2) w14 ?_)))
     refine gx_rA (st_made .u8 33 [2, 2, 1, 2] hS15 (by show 4 ≤ 1000000000; decide) (by as_aux_lemma => kernel_rfl)) ?_
     rintro _ w44 ⟨rfl, hS45⟩
     have hS45 : St _ _ w44 [poolE ([]) w0, rowE .u8 33 (some ⟨w14.heap.size, 0, none⟩) 4 ([2, 2, 1, 2])] := hS45
     have hP46 : St _ _ w44 ([] ++ [poolE ([]) w0, rowE .u8 33 (some ⟨w14.heap.size, 0, none⟩) 4 ([2, 2, 1, 2])]) := hS45
     obtain ⟨b48, hc47, hE41⟩ := bind_in hE41
     try dsimp only at hE41
     refine gx_cA (kBecome_R b48 w44) (kBecome_ok N (⟨#[215, 144, 40, 97, 41]⟩ : ByteArray) (1 : Int) (2 : Int) ([2, 2, 1, 2]) (some ⟨w14.heap.size, 0, none⟩) 4 _ hc47 w44 (hP46.vwB 1 rfl) (MirW.at hcd hS45.below)) ?_
     rintro _ w49 ⟨rfl, hT51⟩
     have hS50 : St _ _ w49 [poolE ([]) w0, rowE .u8 33 (some ⟨w14.heap.size, 0, none⟩) 4 ([2, 2, 1, 2])] := hS45.take _ hT51
     refine gx_kA (.bool b48) w49 ?_
     refine gx_nil ?_
     refine gx_thenN ?_
     exact ⟨b48, selfA_i (by as_aux_lemma => kernel_rfl), (Option.some.inj hE41), (hS50.pick [0] rfl rfl)⟩
    | false =>
     try dsimp only at hE41
     refine gx_oA (gx_oA (gx_oA (gx_oA (gx_oA (gx_oA (gx_kA (.bool false) w14 ?_))))))
     refine gx_nil ?_
     refine gx_thenN ?_
     exact ⟨false, selfA_i (by as_aux_lemma => kernel_rfl), (Option.some.inj hE41), hS15⟩
   ·rintro _ w36 ⟨b39, hq43, rfl, hS37⟩
    obtain ⟨u38, rfl⟩ := selfA_u hq43
    try dsimp only at hO42
    obtain ⟨c56, hE57, hO58⟩ := bind_in hO42
    refine gx_part (l1 := [_, _, _, _, _, _, _]) (fun a w => ∃ (b55 : Bool), selfA (fun u54 => ⟨((.bool false) :: (.int .u8 1) :: (.int .u8 2) :: (.int .u8 14) :: un 17 ((.int .u8 2) :: (.int .u8 2) :: (.int .u8 2) :: dd u16 24 9 ((.bool b17) :: dd u38 34 7 ((.bool b39) :: dd u54 42 6 ((.bool b55) :: un 187 ([])))))).toArray, []⟩) a ∧ b55 = c56 ∧ St [] w0 w [poolE ([]) w0]) rfl ?_ ?_
    ·refine gx_kA (.bool b39) w36 ?_
     cases b39 with
     | true =>
      try dsimp only at hE57
      refine gx_kA (.int .u8 14) w36 (gx_kA (.int .u8 14) w36 (gx_kA (.int .u8 14) w36 ?_))
      refine gx_rA (st_made .u8 33 [14, 14, 14] hS37 (by show 3 ≤ 1000000000; decide) (by as_aux_lemma => kernel_rfl)) ?_
      rintro _ w60 ⟨rfl, hS61⟩
      have hS61 : St _ _ w60 [poolE ([]) w0, rowE .u8 33 (some ⟨w36.heap.size, 0, none⟩) 3 ([14, 14, 14])] := hS61
      have hP62 : St _ _ w60 ([] ++ [poolE ([]) w0, rowE .u8 33 (some ⟨w36.heap.size, 0, none⟩) 3 ([14, 14, 14])]) := hS61
      obtain ⟨b64, hc63, hE57⟩ := bind_in hE57
      try dsimp only at hE57
      refine gx_cA (kBecome_R b64 w60) (kBecome_ok N (⟨#[40, 33, 41]⟩ : ByteArray) (0 : Int) (1 : Int) ([14, 14, 14]) (some ⟨w36.heap.size, 0, none⟩) 3 _ hc63 w60 (hP62.vwB 1 rfl) (MirW.at hcd hS61.below)) ?_
      rintro _ w65 ⟨rfl, hT67⟩
      have hS66 : St _ _ w65 [poolE ([]) w0, rowE .u8 33 (some ⟨w36.heap.size, 0, none⟩) 3 ([14, 14, 14])] := hS61.take _ hT67
      refine gx_kA (.bool b64) w65 ?_
      refine gx_nil ?_
      refine gx_thenN ?_
      exact ⟨b64, selfA_i (by as_aux_lemma => kernel_rfl), (Option.some.inj hE57), (hS66.pick [0] rfl rfl)⟩
     | false =>
      try dsimp only at hE57
      refine gx_oA (gx_oA (gx_oA (gx_oA (gx_oA (gx_kA (.bool false) w36 ?_)))))
      refine gx_nil ?_
      refine gx_thenN ?_
      exact ⟨false, selfA_i (by as_aux_lemma => kernel_rfl), (Option.some.inj hE57), hS37⟩
    ·rintro _ w52 ⟨b55, hq59, rfl, hS53⟩
     obtain ⟨u54, rfl⟩ := selfA_u hq59
     try dsimp only at hO58
     obtain ⟨c72, hE73, hO74⟩ := bind_in hO58
     refine gx_part (l1 := [_, _, _, _, _, _, _, _, _]) (fun a w => ∃ (b71 : Bool), selfA (fun u70 => ⟨((.bool false) :: (.int .u8 1) :: (.int .u8 2) :: (.int .u8 14) :: un 17 ((.int .u8 2) :: (.int .u8 2) :: (.int .u8 2) :: dd u16 24 9 ((.bool b17) :: dd u38 34 7 ((.bool b39) :: dd u54 42 6 ((.bool b55) :: dd u70 49 8 ((.bool b71) :: un 178 ([]))))))).toArray, []⟩) a ∧ b71 = c72 ∧ St [] w0 w [poolE ([]) w0]) rfl ?_ ?_
     ·refine gx_kA (.bool b55) w52 ?_
      cases b55 with
      | true =>
       try dsimp only at hE73
       refine gx_kA (.int .u8 2) w52 (gx_kA (.int .u8 2) w52 (gx_kA (.int .u8 2) w52 (gx_kA (.int .u8 2) w52 (gx_kA (.int .u8 2) w52 ?_))))
       refine gx_rA (st_made .u8 33 [2, 2, 2, 2, 2] hS53 (by show 5 ≤ 1000000000; decide) (by as_aux_lemma => kernel_rfl)) ?_
       rintro _ w76 ⟨rfl, hS77⟩
       have hS77 : St _ _ w76 [poolE ([]) w0, rowE .u8 33 (some ⟨w52.heap.size, 0, none⟩) 5 ([2, 2, 2, 2, 2])] := hS77
       have hP78 : St _ _ w76 ([] ++ [poolE ([]) w0, rowE .u8 33 (some ⟨w52.heap.size, 0, none⟩) 5 ([2, 2, 2, 2, 2])]) := hS77
       obtain ⟨b80, hc79, hE73⟩ := bind_in hE73
       try dsimp only at hE73
       refine gx_cA (kBecome_R b80 w76) (kBecome_ok N (⟨#[215, 144, 40, 215, 144, 41, 204, 129]⟩ : ByteArray) (0 : Int) (1 : Int) ([2, 2, 2, 2, 2]) (some ⟨w52.heap.size, 0, none⟩) 5 _ hc79 w76 (hP78.vwB 1 rfl) (MirW.at hcd hS77.below)) ?_
       rintro _ w81 ⟨rfl, hT83⟩
       have hS82 : St _ _ w81 [poolE ([]) w0, rowE .u8 33 (some ⟨w52.heap.size, 0, none⟩) 5 ([2, 2, 2, 2, 2])] := hS77.take _ hT83
       refine gx_kA (.bool b80) w81 ?_
       refine gx_nil ?_
       refine gx_thenN ?_
       exact ⟨b80, selfA_i (by as_aux_lemma => kernel_rfl), (Option.some.inj hE73), (hS82.pick [0] rfl rfl)⟩
      | false =>
       try dsimp only at hE73
       refine gx_oA (gx_oA (gx_oA (gx_oA (gx_oA (gx_oA (gx_oA (gx_kA (.bool false) w52 ?_)))))))
       refine gx_nil ?_
       refine gx_thenN ?_
       exact ⟨false, selfA_i (by as_aux_lemma => kernel_rfl), (Option.some.inj hE73), hS53⟩
     ·rintro _ w68 ⟨b71, hq75, rfl, hS69⟩
      obtain ⟨u70, rfl⟩ := selfA_u hq75
      try dsimp only at hO74
      obtain ⟨c88, hE89, hO90⟩ := bind_in hO74
      refine gx_part (l1 := [_, _, _, _, _, _, _, _, _]) (fun a w => ∃ (b87 : Bool), selfA (fun u86 => ⟨((.bool false) :: (.int .u8 1) :: (.int .u8 2) :: (.int .u8 14) :: un 17 ((.int .u8 2) :: (.int .u8 2) :: (.int .u8 2) :: dd u16 24 9 ((.bool b17) :: dd u38 34 7 ((.bool b39) :: dd u54 42 6 ((.bool b55) :: dd u70 49 8 ((.bool b71) :: dd u86 58 8 ((.bool b87) :: un 169 ([])))))))).toArray, []⟩) a ∧ b87 = c88 ∧ St [] w0 w [poolE ([]) w0]) rfl ?_ ?_
      ·refine gx_kA (.bool b71) w68 ?_
       cases b71 with
       | true =>
        try dsimp only at hE89
        refine gx_kA (.int .u8 14) w68 (gx_kA (.int .u8 14) w68 (gx_kA (.int .u8 14) w68 (gx_kA (.int .u8 14) w68 (gx_kA (.int .u8 1) w68 ?_))))
        refine gx_rA (st_made .u8 33 [14, 14, 14, 14, 1] hS69 (by show 5 ≤ 1000000000; decide) (by as_aux_lemma => kernel_rfl)) ?_
        rintro _ w92 ⟨rfl, hS93⟩
        have hS93 : St _ _ w92 [poolE ([]) w0, rowE .u8 33 (some ⟨w68.heap.size, 0, none⟩) 5 ([14, 14, 14, 14, 1])] := hS93
        have hP94 : St _ _ w92 ([] ++ [poolE ([]) w0, rowE .u8 33 (some ⟨w68.heap.size, 0, none⟩) 5 ([14, 14, 14, 14, 1])]) := hS93
        obtain ⟨b96, hc95, hE89⟩ := bind_in hE89
        try dsimp only at hE89
        refine gx_cA (kBecome_R b96 w92) (kBecome_ok N (⟨#[40, 91, 41, 93, 97]⟩ : ByteArray) (0 : Int) (1 : Int) ([14, 14, 14, 14, 1]) (some ⟨w68.heap.size, 0, none⟩) 5 _ hc95 w92 (hP94.vwB 1 rfl) (MirW.at hcd hS93.below)) ?_
        rintro _ w97 ⟨rfl, hT99⟩
        have hS98 : St _ _ w97 [poolE ([]) w0, rowE .u8 33 (some ⟨w68.heap.size, 0, none⟩) 5 ([14, 14, 14, 14, 1])] := hS93.take _ hT99
        refine gx_kA (.bool b96) w97 ?_
        refine gx_nil ?_
        refine gx_thenN ?_
        exact ⟨b96, selfA_i (by as_aux_lemma => kernel_rfl), (Option.some.inj hE89), (hS98.pick [0] rfl rfl)⟩
       | false =>
        try dsimp only at hE89
        refine gx_oA (gx_oA (gx_oA (gx_oA (gx_oA (gx_oA (gx_oA (gx_kA (.bool false) w68 ?_)))))))
        refine gx_nil ?_
        refine gx_thenN ?_
        exact ⟨false, selfA_i (by as_aux_lemma => kernel_rfl), (Option.some.inj hE89), hS69⟩
      ·rintro _ w84 ⟨b87, hq91, rfl, hS85⟩
       obtain ⟨u86, rfl⟩ := selfA_u hq91
       try dsimp only at hO90
       obtain ⟨c104, hE105, hO106⟩ := bind_in hO90
       refine gx_part (l1 := [_, _, _, _, _, _, _]) (fun a w => ∃ (b103 : Bool), selfA (fun u102 => ⟨((.bool false) :: (.int .u8 1) :: (.int .u8 2) :: (.int .u8 14) :: un 17 ((.int .u8 2) :: (.int .u8 2) :: (.int .u8 2) :: dd u16 24 9 ((.bool b17) :: dd u38 34 7 ((.bool b39) :: dd u54 42 6 ((.bool b55) :: dd u70 49 8 ((.bool b71) :: dd u86 58 8 ((.bool b87) :: dd u102 67 6 ((.bool b103) :: un 162 ([]))))))))).toArray, []⟩) a ∧ b103 = c104 ∧ St [] w0 w [poolE ([]) w0]) rfl ?_ ?_
       ·refine gx_kA (.bool b87) w84 ?_
        cases b87 with
        | true =>
         try dsimp only at hE105
         refine gx_kA (.int .u8 2) w84 (gx_kA (.int .u8 2) w84 (gx_kA (.int .u8 2) w84 ?_))
         refine gx_rA (st_made .u8 33 [2, 2, 2] hS85 (by show 3 ≤ 1000000000; decide) (by as_aux_lemma => kernel_rfl)) ?_
         rintro _ w108 ⟨rfl, hS109⟩
         have hS109 : St _ _ w108 [poolE ([]) w0, rowE .u8 33 (some ⟨w84.heap.size, 0, none⟩) 3 ([2, 2, 2])] := hS109
         have hP110 : St _ _ w108 ([] ++ [poolE ([]) w0, rowE .u8 33 (some ⟨w84.heap.size, 0, none⟩) 3 ([2, 2, 2])]) := hS109
         obtain ⟨b112, hc111, hE105⟩ := bind_in hE105
         try dsimp only at hE105
         refine gx_cA (kBecome_R b112 w108) (kBecome_ok N (⟨#[40, 215, 144, 41]⟩ : ByteArray) (0 : Int) (2 : Int) ([2, 2, 2]) (some ⟨w84.heap.size, 0, none⟩) 3 _ hc111 w108 (hP110.vwB 1 rfl) (MirW.at hcd hS109.below)) ?_
         rintro _ w113 ⟨rfl, hT115⟩
         have hS114 : St _ _ w113 [poolE ([]) w0, rowE .u8 33 (some ⟨w84.heap.size, 0, none⟩) 3 ([2, 2, 2])] := hS109.take _ hT115
         refine gx_kA (.bool b112) w113 ?_
         refine gx_nil ?_
         refine gx_thenN ?_
         exact ⟨b112, selfA_i (by as_aux_lemma => kernel_rfl), (Option.some.inj hE105), (hS114.pick [0] rfl rfl)⟩
        | false =>
         try dsimp only at hE105
         refine gx_oA (gx_oA (gx_oA (gx_oA (gx_oA (gx_kA (.bool false) w84 ?_)))))
         refine gx_nil ?_
         refine gx_thenN ?_
         exact ⟨false, selfA_i (by as_aux_lemma => kernel_rfl), (Option.some.inj hE105), hS85⟩
       ·rintro _ w100 ⟨b103, hq107, rfl, hS101⟩
        obtain ⟨u102, rfl⟩ := selfA_u hq107
        try dsimp only at hO106
        refine gx_kA (.bool b103) w100 ?_
        cases b103 with
        | true =>
         try dsimp only at hO106
         refine gx_kA (.int .u8 1) w100 (gx_kA (.int .u8 2) w100 (gx_kA (.int .u8 1) w100 ?_))
         refine gx_rA (st_made .u8 33 [1, 2, 1] hS101 (by show 3 ≤ 1000000000; decide) (by as_aux_lemma => kernel_rfl)) ?_
         rintro _ w116 ⟨rfl, hS117⟩
         have hS117 : St _ _ w116 [poolE ([]) w0, rowE .u8 33 (some ⟨w100.heap.size, 0, none⟩) 3 ([1, 2, 1])] := hS117
         have hP118 : St _ _ w116 ([] ++ [poolE ([]) w0, rowE .u8 33 (some ⟨w100.heap.size, 0, none⟩) 3 ([1, 2, 1])]) := hS117
         obtain ⟨b120, hc119, hO106⟩ := bind_in hO106
         try dsimp only at hO106
         refine gx_cA (kBecome_R b120 w116) (kBecome_ok N (⟨#[40, 215, 144, 41]⟩ : ByteArray) (0 : Int) (1 : Int) ([1, 2, 1]) (some ⟨w100.heap.size, 0, none⟩) 3 _ hc119 w116 (hP118.vwB 1 rfl) (MirW.at hcd hS117.below)) ?_
         rintro _ w121 ⟨rfl, hT123⟩
         have hS122 : St _ _ w121 [poolE ([]) w0, rowE .u8 33 (some ⟨w100.heap.size, 0, none⟩) 3 ([1, 2, 1])] := hS117.take _ hT123
         refine gx_kA (.bool b120) w121 (gx_kA (.bool b120) w121 ?_)
         refine gx_nil ?_
         refine gx_thenN ?_
         exact ⟨b120, selfA_i (by as_aux_lemma => kernel_rfl), (Option.some.inj hO106), (hS122.pick [0] rfl rfl)⟩
        | false =>
         try dsimp only at hO106
         refine gx_oA (gx_oA (gx_oA (gx_oA (gx_oA (gx_kA (.bool false) w100 (gx_kA (.bool false) w100 ?_))))))
         refine gx_nil ?_
         refine gx_thenN ?_
         exact ⟨false, selfA_i (by as_aux_lemma => kernel_rfl), (Option.some.inj hO106), hS101⟩
 ·rintro _ w5 ⟨b8, hq498, rfl, hS6⟩
  obtain ⟨u7, rfl⟩ := selfA_u hq498
  try dsimp only at hO11
  obtain ⟨c128, hE129, hO130⟩ := bind_in hO11
  refine gx_cut (fun a w => ∃ (b127 : Bool), selfA (fun u126 => ⟨((.bool false) :: (.int .u8 1) :: (.int .u8 2) :: (.int .u8 14) :: (.bool b8) :: (.bool b127) :: un 15 (dd u7 21 60 (dd u126 81 34 (un 121 ([]))))).toArray, []⟩) a ∧ b127 = c128 ∧ St [] w0 w [poolE ([]) w0]) ?_ ?_
  ·refine gx_region ?_
   refine gx_kA (.int .u8 1) w5 (gx_kA (.int .u8 1) w5 (gx_kA (.int .u8 1) w5 ?_))
   refine gx_rA (st_made .u8 33 [1, 1, 1] hS6 (by show 3 ≤ 1000000000; decide) (by as_aux_lemma => kernel_rfl)) ?_
   rintro _ w131 ⟨rfl, hS132⟩
   have hS132 : St _ _ w131 [poolE ([]) w0, rowE .u8 33 (some ⟨w5.heap.size, 0, none⟩) 3 ([1, 1, 1])] := hS132
   obtain ⟨c137, hE138, hO139⟩ := bind_in hE129
   refine gx_part (l1 := [_, _, _, _, _, _, _, _]) (fun a w => ∃ (b136 : Bool), selfA (fun u135 => ⟨((.bool false) :: (.int .u8 1) :: (.int .u8 2) :: (.int .u8 14) :: (.bool b8) :: un 16 (dd u7 21 60 ((.int .u8 1) :: (.int .u8 1) :: (.int .u8 1) :: dd u135 84 8 ((.bool b136) :: un 143 ([]))))).toArray, []⟩) a ∧ b136 = c137 ∧ St [] w0 w [poolE ([]) w0]) rfl ?_ ?_
   ·have hP141 : St _ _ w131 ([] ++ [poolE ([]) w0, rowE .u8 33 (some ⟨w5.heap.size, 0, none⟩) 3 ([1, 1, 1])]) := hS132
    obtain ⟨b143, hc142, hE138⟩ := bind_in hE138
    try dsimp only at hE138
    refine gx_cA (kBecome_R b143 w131) (kBecome_ok N (⟨#[226, 140, 169, 97, 227, 128, 137]⟩ : ByteArray) (0 : Int) (1 : Int) ([1, 1, 1]) (some ⟨w5.heap.size, 0, none⟩) 3 _ hc142 w131 (hP141.vwB 1 rfl) (MirW.at hcd hS132.below)) ?_
    rintro _ w144 ⟨rfl, hT146⟩
    have hS145 : St _ _ w144 [poolE ([]) w0, rowE .u8 33 (some ⟨w5.heap.size, 0, none⟩) 3 ([1, 1, 1])] := hS132.take _ hT146
    refine gx_kA (.bool b143) w144 ?_
    cases b143 with
    | true =>
     try dsimp only at hE138
     refine gx_kA (.int .u8 14) w144 (gx_kA (.int .u8 1) w144 (gx_kA (.int .u8 14) w144 ?_))
     refine gx_rA (st_made .u8 33 [14, 1, 14] hS145 (by show 3 ≤ 1000000000; decide) (by as_aux_lemma => kernel_rfl)) ?_
     rintro _ w147 ⟨rfl, hS148⟩
     have hS148 : St _ _ w147 [poolE ([]) w0, rowE .u8 33 (some ⟨w5.heap.size, 0, none⟩) 3 ([1, 1, 1]), rowE .u8 33 (some ⟨w144.heap.size, 0, none⟩) 3 ([14, 1, 14])] := hS148
     have hP149 : St _ _ w147 ([] ++ [poolE ([]) w0, rowE .u8 33 (some ⟨w5.heap.size, 0, none⟩) 3 ([1, 1, 1]), rowE .u8 33 (some ⟨w144.heap.size, 0, none⟩) 3 ([14, 1, 14])]) := hS148
     obtain ⟨b151, hc150, hE138⟩ := bind_in hE138
     try dsimp only at hE138
     refine gx_cA (kBecome_R b151 w147) (kBecome_ok N (⟨#[40, 97, 93]⟩ : ByteArray) (0 : Int) (1 : Int) ([14, 1, 14]) (some ⟨w144.heap.size, 0, none⟩) 3 _ hc150 w147 (hP149.vwB 2 rfl) (MirW.at hcd hS148.below)) ?_
     rintro _ w152 ⟨rfl, hT154⟩
     have hS153 : St _ _ w152 [poolE ([]) w0, rowE .u8 33 (some ⟨w5.heap.size, 0, none⟩) 3 ([1, 1, 1]), rowE .u8 33 (some ⟨w144.heap.size, 0, none⟩) 3 ([14, 1, 14])] := hS148.take _ hT154
     refine gx_kA (.bool b151) w152 ?_
     refine gx_nil ?_
     refine gx_thenN ?_
     exact ⟨b151, selfA_i (by as_aux_lemma => kernel_rfl), (Option.some.inj hE138), (hS153.pick [0] rfl rfl)⟩
    | false =>
     try dsimp only at hE138
     refine gx_oA (gx_oA (gx_oA (gx_oA (gx_oA (gx_kA (.bool false) w144 ?_)))))
     refine gx_nil ?_
     refine gx_thenN ?_
     exact ⟨false, selfA_i (by as_aux_lemma => kernel_rfl), (Option.some.inj hE138), (hS145.pick [0] rfl rfl)⟩
   ·rintro _ w133 ⟨b136, hq140, rfl, hS134⟩
    obtain ⟨u135, rfl⟩ := selfA_u hq140
    try dsimp only at hO139
    obtain ⟨c159, hE160, hO161⟩ := bind_in hO139
    refine gx_part (l1 := [_, _, _, _, _, _, _, _, _, _, _]) (fun a w => ∃ (b158 : Bool), selfA (fun u157 => ⟨((.bool false) :: (.int .u8 1) :: (.int .u8 2) :: (.int .u8 14) :: (.bool b8) :: un 16 (dd u7 21 60 ((.int .u8 1) :: (.int .u8 1) :: (.int .u8 1) :: dd u135 84 8 ((.bool b136) :: dd u157 93 10 ((.bool b158) :: un 132 ([])))))).toArray, []⟩) a ∧ b158 = c159 ∧ St [] w0 w [poolE ([]) w0]) rfl ?_ ?_
    ·refine gx_kA (.bool b136) w133 ?_
     cases b136 with
     | true =>
      try dsimp only at hE160
      refine gx_kA (.int .u8 1) w133 (gx_kA (.int .u8 2) w133 (gx_kA (.int .u8 2) w133 (gx_kA (.int .u8 2) w133 (gx_kA (.int .u8 2) w133 (gx_kA (.int .u8 2) w133 (gx_kA (.int .u8 2) w133 ?_))))))
      refine gx_rA (st_made .u8 33 [1, 2, 2, 2, 2, 2, 2] hS134 (by show 7 ≤ 1000000000; decide) (by as_aux_lemma => kernel_rfl)) ?_
      rintro _ w163 ⟨rfl, hS164⟩
      have hS164 : St _ _ w163 [poolE ([]) w0, rowE .u8 33 (some ⟨w133.heap.size, 0, none⟩) 7 ([1, 2, 2, 2, 2, 2, 2])] := hS164
      have hP165 : St _ _ w163 ([] ++ [poolE ([]) w0, rowE .u8 33 (some ⟨w133.heap.size, 0, none⟩) 7 ([1, 2, 2, 2, 2, 2, 2])]) := hS164
      obtain ⟨b167, hc166, hE160⟩ := bind_in hE160
      try dsimp only at hE160
      refine gx_cA (kBecome_R b167 w163) (kBecome_ok N (⟨#[97, 40, 215, 144, 91, 215, 145, 93, 41]⟩ : ByteArray) (1 : Int) (2 : Int) ([1, 2, 2, 2, 2, 2, 2]) (some ⟨w133.heap.size, 0, none⟩) 7 _ hc166 w163 (hP165.vwB 1 rfl) (MirW.at hcd hS164.below)) ?_
      rintro _ w168 ⟨rfl, hT170⟩
      have hS169 : St _ _ w168 [poolE ([]) w0, rowE .u8 33 (some ⟨w133.heap.size, 0, none⟩) 7 ([1, 2, 2, 2, 2, 2, 2])] := hS164.take _ hT170
      refine gx_kA (.bool b167) w168 ?_
      refine gx_nil ?_
      refine gx_thenN ?_
      exact ⟨b167, selfA_i (by as_aux_lemma => kernel_rfl), (Option.some.inj hE160), (hS169.pick [0] rfl rfl)⟩
     | false =>
      try dsimp only at hE160
      refine gx_oA (gx_oA (gx_oA (gx_oA (gx_oA (gx_oA (gx_oA (gx_oA ?_)))))))
      refine gx_oA (gx_kA (.bool false) w133 ?_)
      refine gx_nil ?_
      refine gx_thenN ?_
      exact ⟨false, selfA_i (by as_aux_lemma => kernel_rfl), (Option.some.inj hE160), hS134⟩
    ·rintro _ w155 ⟨b158, hq162, rfl, hS156⟩
     obtain ⟨u157, rfl⟩ := selfA_u hq162
     try dsimp only at hO161
     refine gx_kA (.bool b158) w155 ?_
     cases b158 with
     | true =>
      try dsimp only at hO161
      refine gx_kA (.int .u8 2) w155 (gx_kA (.int .u8 1) w155 (gx_kA (.int .u8 1) w155 (gx_kA (.int .u8 1) w155 (gx_kA (.int .u8 2) w155 (gx_kA (.int .u8 1) w155 (gx_kA (.int .u8 1) w155 ?_))))))
      refine gx_rA (st_made .u8 33 [2, 1, 1, 1, 2, 1, 1] hS156 (by show 7 ≤ 1000000000; decide) (by as_aux_lemma => kernel_rfl)) ?_
      rintro _ w171 ⟨rfl, hS172⟩
      have hS172 : St _ _ w171 [poolE ([]) w0, rowE .u8 33 (some ⟨w155.heap.size, 0, none⟩) 7 ([2, 1, 1, 1, 2, 1, 1])] := hS172
      have hP173 : St _ _ w171 ([] ++ [poolE ([]) w0, rowE .u8 33 (some ⟨w155.heap.size, 0, none⟩) 7 ([2, 1, 1, 1, 2, 1, 1])]) := hS172
      obtain ⟨b175, hc174, hO161⟩ := bind_in hO161
      try dsimp only at hO161
      refine gx_cA (kBecome_R b175 w171) (kBecome_ok N (⟨#[215, 144, 91, 97, 40, 215, 144, 41, 93]⟩ : ByteArray) (0 : Int) (1 : Int) ([2, 1, 1, 1, 2, 1, 1]) (some ⟨w155.heap.size, 0, none⟩) 7 _ hc174 w171 (hP173.vwB 1 rfl) (MirW.at hcd hS172.below)) ?_
      rintro _ w176 ⟨rfl, hT178⟩
      have hS177 : St _ _ w176 [poolE ([]) w0, rowE .u8 33 (some ⟨w155.heap.size, 0, none⟩) 7 ([2, 1, 1, 1, 2, 1, 1])] := hS172.take _ hT178
      refine gx_kA (.bool b175) w176 (gx_kA (.bool b175) w176 ?_)
      refine gx_nil ?_
      refine gx_thenN ?_
      exact ⟨b175, selfA_i (by as_aux_lemma => kernel_rfl), (Option.some.inj hO161), (hS177.pick [0] rfl rfl)⟩
     | false =>
      try dsimp only at hO161
      refine gx_oA (gx_oA (gx_oA (gx_oA (gx_oA (gx_oA (gx_oA (gx_oA ?_)))))))
      refine gx_oA (gx_kA (.bool false) w155 (gx_kA (.bool false) w155 ?_))
      refine gx_nil ?_
      refine gx_thenN ?_
      exact ⟨false, selfA_i (by as_aux_lemma => kernel_rfl), (Option.some.inj hO161), hS156⟩
  ·rintro _ w124 ⟨b127, hq497, rfl, hS125⟩
   obtain ⟨u126, rfl⟩ := selfA_u hq497
   try dsimp only at hO130
   refine gx_seq (fun K179 hK180 => ?_)
   refine gx_region ?_
   refine gx_kA (.slice none 0 0) w124 ?_
   refine gx_nil ?_
   refine gx_thenN ?_
   refine hK180 _ _ ?_
   refine gx_seq (fun K181 hK182 => ?_)
   refine gx_region ?_
   refine gx_kA (.slice none 0 0) w124 ?_
   refine gx_nil ?_
   refine gx_thenN ?_
   refine hK182 _ _ ?_
   obtain ⟨c189, hE190, hO191⟩ := bind_in hO130
   refine gx_cut (fun a w => ∃ (l188 : List Int) (A186 : Option Addr) (c187 : Nat), selfA (fun u185 => ⟨((.bool false) :: (.int .u8 1) :: (.int .u8 2) :: (.int .u8 14) :: (.bool b8) :: (.bool b127) :: (.slice A186 l188.length c187) :: (.slice none 0 0) :: (u185 8) :: un 12 (dd u7 21 60 (dd u126 81 34 (dd u185 115 7 (un 114 ([])))))).toArray, []⟩) a ∧ l188 = c189 ∧ St [] w0 w [poolE ([]) w0, rowE .i32 21 A186 c187 l188]) ?_ ?_
   ·refine gx_seq (fun K192 hK193 => ?_)
    refine gx_region ?_
    refine gx_kA (.int .i64 0) w124 ?_
    refine gx_nil ?_
    refine gx_thenN ?_
    refine hK193 _ _ ?_
    refine gx_block ?_
    have hS194 : St _ _ w124 [poolE ([]) w0, rowE .i32 21 none 0 ([])] := hS125.nilrow .i32 21
    refine gx_loop (fun k a w => ∃ (l200 : List Int) (x201 : Int) (A198 : Option Addr) (c199 : Nat), selfA (fun u197 => ⟨((.bool false) :: (.int .u8 1) :: (.int .u8 2) :: (.int .u8 14) :: (.bool b8) :: (.bool b127) :: (.slice A198 l200.length c199) :: (.slice none 0 0) :: (.int .i64 x201) :: un 12 (dd u7 21 60 (dd u126 81 34 (dd u197 115 7 (un 114 ([])))))).toArray, []⟩) a ∧ fPK_L1 N k l200 x201 = some c189 ∧ St [] w0 w [poolE ([]) w0, rowE .i32 21 A198 c199 l200]) N ?_ ?_
    ·exact ⟨([]), 0, none, 0, selfA_i (by as_aux_lemma => kernel_rfl), hE190, hS194⟩
    ·rintro k202 _ w195 ⟨l200, x201, A198, c199, hq220, hL203, hS196⟩
     obtain ⟨u197, rfl⟩ := selfA_u hq220
     cases k202 with
     | zero => cases hL203
     | succ k202 =>
      first | rw [fPK_L1] at hL203 | unfold fPK_L1 at hL203
      refine gx_seq (fun K204 hK205 => ?_)
      refine gx_seq (fun K206 hK207 => ?_)
      refine gx_region ?_
      refine gx_kA (.int .i64 x201) w195 ?_
      rcases if_in hL203 with ⟨h208, hL203⟩ | ⟨h208, hL203⟩
      ·refine gx_vA (.bool true) w195 (run_boolE (decide_eq_true h208) (by as_aux_lemma => kernel_rfl)) ?_
       refine gx_nil ?_
       refine gx_thenN ?_
       refine hK207 _ _ ?_
       refine gx_yes (by as_aux_lemma => kernel_rfl) ?_
       refine gx_pass ?_
       refine gx_thenN ?_
       refine hK205 _ _ ?_
       refine gx_seq (fun K209 hK210 => ?_)
       refine gx_block ?_
       refine gx_region ?_
       refine gx_kA (.slice A198 l200.length c199) w195 ?_
       refine gx_rA (st_made .i32 21 [40] hS196 (by show 1 ≤ 1000000000; decide) (by as_aux_lemma => kernel_rfl)) ?_
       rintro _ w211 ⟨rfl, hS212⟩
       have hS212 : St _ _ w211 [poolE ([]) w0, rowE .i32 21 A198 c199 l200, rowE .i32 21 (some ⟨w195.heap.size, 0, none⟩) 1 ([40])] := hS212
       obtain ⟨l213, ha214, hL203⟩ := bind_in hL203
       obtain ⟨ha214, hq215⟩ := apx_in ha214
       refine gx_rA (st_append rfl (by as_aux_lemma => kernel_rfl) (by as_aux_lemma => kernel_rfl) hS212 1 rfl (hS212.row 2 rfl).1 (hS212.row 2 rfl).2 ha214 (by as_aux_lemma => kernel_rfl) (by as_aux_lemma => kernel_rfl)) ?_
       rintro _ w218 ⟨A216, c217, rfl, hS219⟩
       rw [← hq215] at hS219 ⊢
       have hS219 : St _ _ w218 [poolE ([]) w0, rowE .i32 21 A216 c217 l213, rowE .i32 21 (some ⟨w195.heap.size, 0, none⟩) 1 ([40])] := hS219
       refine gx_kA (.slice A216 l213.length c217) w218 ?_
       refine gx_nil ?_
       refine gx_blkN ?_
       refine gx_thenN ?_
       refine hK210 _ _ ?_
       refine gx_region ?_
       refine gx_kA (.int .i64 x201) w218 (gx_kA (.int .i64 (IntKind.i64.wrap (x201 + 1))) w218 (gx_kA (.int .i64 (IntKind.i64.wrap (x201 + 1))) w218 ?_))
       refine gx_nil ?_
       refine gx_thenN ?_
       exact ⟨k202, Nat.lt_succ_self k202, l213, (IntKind.i64.wrap (x201 + 1)), A216, c217, selfA_i (by as_aux_lemma => kernel_rfl), hL203, (hS219.pick [0, 1] rfl rfl)⟩
      ·refine gx_vA (.bool false) w195 (run_boolE (decide_eq_false h208) (by as_aux_lemma => kernel_rfl)) ?_
       refine gx_nil ?_
       refine gx_thenN ?_
       refine hK207 _ _ ?_
       refine gx_no (by as_aux_lemma => kernel_rfl) ?_
       refine gx_exit ?_
       refine gx_thenE ?_
       refine gx_thenE ?_
       refine gx_blkE ?_
       refine gx_thenN ?_
       exact ⟨l200, A198, c199, selfA_i (by as_aux_lemma => kernel_rfl), (Option.some.inj hL203), hS196⟩
   ·rintro _ w183 ⟨l188, A186, c187, hq496, rfl, hS184⟩
    obtain ⟨u185, rfl⟩ := selfA_u hq496
    try dsimp only at hO191
    obtain ⟨c227, hE228, hO229⟩ := bind_in hO191
    refine gx_cut (fun a w => ∃ (l226 : List Int) (A224 : Option Addr) (c225 : Nat), selfA (fun u223 => ⟨((.bool false) :: (.int .u8 1) :: (.int .u8 2) :: (.int .u8 14) :: (.bool b8) :: (.bool b127) :: (.slice A224 l226.length c225) :: (.slice none 0 0) :: (u185 8) :: (u223 9) :: un 11 (dd u7 21 60 (dd u126 81 34 (dd u185 115 7 (dd u223 122 7 (un 107 ([]))))))).toArray, []⟩) a ∧ l226 = c227 ∧ St [] w0 w [poolE ([]) w0, rowE .i32 21 A224 c225 l226]) ?_ ?_
    ·refine gx_seq (fun K230 hK231 => ?_)
     refine gx_region ?_
     refine gx_kA (.int .i64 0) w183 ?_
     refine gx_nil ?_
     refine gx_thenN ?_
     refine hK231 _ _ ?_
     refine gx_block ?_
     refine gx_loop (fun k a w => ∃ (l237 : List Int) (x238 : Int) (A235 : Option Addr) (c236 : Nat), selfA (fun u234 => ⟨((.bool false) :: (.int .u8 1) :: (.int .u8 2) :: (.int .u8 14) :: (.bool b8) :: (.bool b127) :: (.slice A235 l237.length c236) :: (.slice none 0 0) :: (u185 8) :: (.int .i64 x238) :: un 11 (dd u7 21 60 (dd u126 81 34 (dd u185 115 7 (dd u234 122 7 (un 107 ([]))))))).toArray, []⟩) a ∧ fPK_L2 N k l237 x238 = some c227 ∧ St [] w0 w [poolE ([]) w0, rowE .i32 21 A235 c236 l237]) N ?_ ?_
     ·exact ⟨l188, 0, A186, c187, selfA_i (by as_aux_lemma => kernel_rfl), hE228, hS184⟩
     ·rintro k239 _ w232 ⟨l237, x238, A235, c236, hq257, hL240, hS233⟩
      obtain ⟨u234, rfl⟩ := selfA_u hq257
      cases k239 with
      | zero => cases hL240
      | succ k239 =>
       first | rw [fPK_L2] at hL240 | unfold fPK_L2 at hL240
       refine gx_seq (fun K241 hK242 => ?_)
       refine gx_seq (fun K243 hK244 => ?_)
       refine gx_region ?_
       refine gx_kA (.int .i64 x238) w232 ?_
       rcases if_in hL240 with ⟨h245, hL240⟩ | ⟨h245, hL240⟩
       ·refine gx_vA (.bool true) w232 (run_boolE (decide_eq_true h245) (by as_aux_lemma => kernel_rfl)) ?_
        refine gx_nil ?_
        refine gx_thenN ?_
        refine hK244 _ _ ?_
        refine gx_yes (by as_aux_lemma => kernel_rfl) ?_
        refine gx_pass ?_
        refine gx_thenN ?_
        refine hK242 _ _ ?_
        refine gx_seq (fun K246 hK247 => ?_)
        refine gx_block ?_
        refine gx_region ?_
        refine gx_kA (.slice A235 l237.length c236) w232 ?_
        refine gx_rA (st_made .i32 21 [41] hS233 (by show 1 ≤ 1000000000; decide) (by as_aux_lemma => kernel_rfl)) ?_
        rintro _ w248 ⟨rfl, hS249⟩
        have hS249 : St _ _ w248 [poolE ([]) w0, rowE .i32 21 A235 c236 l237, rowE .i32 21 (some ⟨w232.heap.size, 0, none⟩) 1 ([41])] := hS249
        obtain ⟨l250, ha251, hL240⟩ := bind_in hL240
        obtain ⟨ha251, hq252⟩ := apx_in ha251
        refine gx_rA (st_append rfl (by as_aux_lemma => kernel_rfl) (by as_aux_lemma => kernel_rfl) hS249 1 rfl (hS249.row 2 rfl).1 (hS249.row 2 rfl).2 ha251 (by as_aux_lemma => kernel_rfl) (by as_aux_lemma => kernel_rfl)) ?_
        rintro _ w255 ⟨A253, c254, rfl, hS256⟩
        rw [← hq252] at hS256 ⊢
        have hS256 : St _ _ w255 [poolE ([]) w0, rowE .i32 21 A253 c254 l250, rowE .i32 21 (some ⟨w232.heap.size, 0, none⟩) 1 ([41])] := hS256
        refine gx_kA (.slice A253 l250.length c254) w255 ?_
        refine gx_nil ?_
        refine gx_blkN ?_
        refine gx_thenN ?_
        refine hK247 _ _ ?_
        refine gx_region ?_
        refine gx_kA (.int .i64 x238) w255 (gx_kA (.int .i64 (IntKind.i64.wrap (x238 + 1))) w255 (gx_kA (.int .i64 (IntKind.i64.wrap (x238 + 1))) w255 ?_))
        refine gx_nil ?_
        refine gx_thenN ?_
        exact ⟨k239, Nat.lt_succ_self k239, l250, (IntKind.i64.wrap (x238 + 1)), A253, c254, selfA_i (by as_aux_lemma => kernel_rfl), hL240, (hS256.pick [0, 1] rfl rfl)⟩
       ·refine gx_vA (.bool false) w232 (run_boolE (decide_eq_false h245) (by as_aux_lemma => kernel_rfl)) ?_
        refine gx_nil ?_
        refine gx_thenN ?_
        refine hK244 _ _ ?_
        refine gx_no (by as_aux_lemma => kernel_rfl) ?_
        refine gx_exit ?_
        refine gx_thenE ?_
        refine gx_thenE ?_
        refine gx_blkE ?_
        refine gx_thenN ?_
        exact ⟨l237, A235, c236, selfA_i (by as_aux_lemma => kernel_rfl), (Option.some.inj hL240), hS233⟩
    ·rintro _ w221 ⟨l226, A224, c225, hq495, rfl, hS222⟩
     obtain ⟨u223, rfl⟩ := selfA_u hq495
     try dsimp only at hO229
     refine gx_seq (fun K258 hK259 => ?_)
     refine gx_region ?_
     refine gx_kA (.slice A224 l226.length c225) w221 ?_
     have hP260 : St _ _ w221 ([] ++ [poolE ([]) w0, rowE .i32 21 A224 c225 l226]) := hS222
     obtain ⟨l262, hc261, hO229⟩ := bind_in hO229
     try dsimp only at hO229
     refine gx_cA (kClasses_R l262 w221) (kClasses_ok N l226 A224 c225 _ hc261 w221 (hP260.vwB 1 rfl)) ?_
     rintro _ w265 ⟨A263, c264, rfl, hT267⟩
     have hS266 : St _ _ w265 [poolE ([]) w0, rowE .i32 21 A224 c225 l226, rowE .u8 33 A263 c264 l262] := hS222.take _ hT267
     refine gx_kA (.slice A263 l262.length c264) w265 ?_
     refine gx_nil ?_
     refine gx_thenN ?_
     refine hK259 _ _ ?_
     obtain ⟨c275, hE276, hO277⟩ := bind_in hO229
     refine gx_cut (fun a w => ∃ (b274 : Bool) (ft271 : List Nat) (W272 : World), selfA (fun u270 => ⟨((.bool false) :: (.int .u8 1) :: (.int .u8 2) :: (.int .u8 14) :: (.bool b8) :: (.bool b127) :: dd u270 6 2 ((u185 8) :: (u223 9) :: (.bool b274) :: un 10 (dd u7 21 60 (dd u126 81 34 (dd u185 115 7 (dd u223 122 7 (dd u270 129 31 (un 76 ([]))))))))).toArray, []⟩) a ∧ b274 = c275 ∧ St [] w0 w [poolE ft271 W272] ∧ Turn [] w0 w0 ([]) W272 ft271) ?_ ?_
     ·refine gd_start (fun w => St [] w0 w [rowE .i32 21 A224 c225 l226, rowE .u8 33 A263 c264 l262]) 30 #[false, false, false, false, false, false, false, false, false, false, false, false, false, false, false, false, false, false, false, false, false, false, false, false, false, false, false, false, false, false] (by as_aux_lemma => kernel_rfl) (by as_aux_lemma => kernel_rfl) ?_
      have hS279 := hS266.drew
      generalize w265.drew = w278 at hS279 ⊢
      refine gv1 0 131 (.slice A224 l226.length c225) rfl (hS279.pick [1, 2] rfl rfl) ?_
      refine gv1 1 132 (.slice A263 l262.length c264) rfl (hS279.pick [1, 2] rfl rfl) ?_
      have hP280 : St _ _ w278 ([] ++ [poolE ([]) w0, rowE .i32 21 A224 c225 l226, rowE .u8 33 A263 c264 l262]) := hS279
      obtain ⟨l282, hc281, hE276⟩ := bind_in hE276
      try dsimp only at hE276
      refine gdC 2 { dst := some 133, op := _, type := _, pos := _, after := _, guard := _ } (pPrs_R l282 w278) rfl (by as_aux_lemma => kernel_rfl) (pPrs_ok N l226 l262 A224 c225 A263 c264 _ hc281 w278 (hP280.vwB 1 rfl) (hP280.vwB 2 rfl) (MirW.at hcd hS279.below)) ?_
      rintro _ w288 ⟨A283, c284, vs285, ft287, rfl, hT290, hf286⟩
      have hS289 : St _ _ w288 [poolE ([]) w0, rowE .i32 21 A224 c225 l226, rowE .u8 33 A263 c264 l262, rowG 30 2 (.slice A283 l282.length c284) l282.length vs285, poolE ft287 w288] := hS279.take _ hT290
      obtain ⟨ft291, W292, hS293, hT294, hU295⟩ := hS289.merge 4 0 rfl rfl (by decide)
      have hS293 : St _ _ w288 [poolE ft291 W292, rowE .i32 21 A224 c225 l226, rowE .u8 33 A263 c264 l262, rowG 30 2 (.slice A283 l282.length c284) l282.length vs285] := hS293
      have hT294 : Turn [] w0 w0 ([]) W292 ft291 := hT294
      have hf298 : (fEach (pairE (intE .i64) (intE .i64)) vs285 l282).rd W292 ft291 := hU295 _ hf286
      refine ⟨(hS293.pick [1, 2] rfl rfl), ?_⟩
      refine gv1 3 134 (.int .i64 ((l282.length : Nat) : Int)) rfl (hS293.pick [1, 2] rfl rfl) ?_
      rcases if_in hE276 with ⟨h299, hE276⟩ | ⟨h299, hE276⟩
      ·refine gu1 4 135 (.bool true) rfl (hS293.pick [1, 2] rfl rfl) (fun w hSw => run_boolE (decide_eq_true h299) (by as_aux_lemma => kernel_rfl)) ?_
       refine gv1 5 136 (.bool true) rfl (hS293.pick [1, 2] rfl rfl) ?_
       refine gv1 6 137 (.slice A224 l226.length c225) rfl (hS293.pick [1, 2] rfl rfl) ?_
       obtain ⟨l300, hx301, hE276⟩ := bind_in hE276
       obtain ⟨A302, c303, hA304⟩ := cut_is A224 (Int.toNat (7 : Int)) (Int.toNat (133 : Int)) c225
       rw [← cutx_len hx301] at hA304
       refine gu1 7 138 (.slice A302 l300.length c303) rfl (hS293.pick [1, 2] rfl rfl) (fun w hSw => run_cut (TE := 21) (n := l226.length) (l := Int.toNat (7 : Int)) (h := Int.toNat (133 : Int)) (some (.int .i64 7)) (some (.int .i64 133)) rfl (by as_aux_lemma => kernel_rfl) (by as_aux_lemma => kernel_rfl) (by as_aux_lemma => kernel_rfl) (by as_aux_lemma => kernel_rfl) (fun _ => by kernel_rfl) (bnd_lh (cutx_in hx301).1 (cutx_in hx301).2.1 (Int.le_trans (cutx_in hx301).2.2.1 (by exact_mod_cast num_room (hS293.row 1 rfl).1))) hA304) ?_
       refine gv1 8 139 (.slice A263 l262.length c264) rfl (hS293.pick [1, 2] rfl rfl) ?_
       obtain ⟨l306, hx307, hE276⟩ := bind_in hE276
       obtain ⟨A308, c309, hA310⟩ := cut_is A263 (Int.toNat (7 : Int)) (Int.toNat (133 : Int)) c264
       rw [← cutx_len hx307] at hA310
       refine gu1 9 140 (.slice A308 l306.length c309) rfl (hS293.pick [1, 2] rfl rfl) (fun w hSw => run_cut (TE := 33) (n := l262.length) (l := Int.toNat (7 : Int)) (h := Int.toNat (133 : Int)) (some (.int .i64 7)) (some (.int .i64 133)) rfl (by as_aux_lemma => kernel_rfl) (by as_aux_lemma => kernel_rfl) (by as_aux_lemma => kernel_rfl) (by as_aux_lemma => kernel_rfl) (fun _ => by kernel_rfl) (bnd_lh (cutx_in hx307).1 (cutx_in hx307).2.1 (Int.le_trans (cutx_in hx307).2.2.1 (by exact_mod_cast num_room (hS293.row 2 rfl).1))) hA310) ?_
       have hP312 : St _ _ w288 ([] ++ [poolE ft291 W292, rowE .i32 21 A224 c225 l226, rowE .u8 33 A263 c264 l262, rowG 30 2 (.slice A283 l282.length c284) l282.length vs285]) := hS293
       obtain ⟨l314, hc313, hE276⟩ := bind_in hE276
       try dsimp only at hE276
       refine gdC 10 { dst := some 141, op := _, type := _, pos := _, after := _, guard := _ } (pPrs_R l314 w288) rfl (by as_aux_lemma => kernel_rfl) (pPrs_ok N l300 l306 A302 c303 A308 c309 _ hc313 w288 (Vw.of (num_cut (hS293.row 1 rfl).1 hx301 hA304) (cut_nn (hS293.row 1 rfl).2 hA304)) (Vw.of (num_cut (hS293.row 2 rfl).1 hx307 hA310) (cut_nn (hS293.row 2 rfl).2 hA310)) (MirW.at hcd hS293.below)) ?_
       rintro _ w320 ⟨A315, c316, vs317, ft319, rfl, hT322, hf318⟩
       have hS321 : St _ _ w320 [poolE ft291 W292, rowE .i32 21 A224 c225 l226, rowE .u8 33 A263 c264 l262, rowG 30 2 (.slice A283 l282.length c284) l282.length vs285, rowG 30 2 (.slice A315 l314.length c316) l314.length vs317, poolE ft319 w320] := hS293.take _ hT322
       obtain ⟨ft323, W324, hS325, hT326, hU327⟩ := hS321.merge 5 0 rfl rfl (by decide)
       have hS325 : St _ _ w320 [poolE ft323 W324, rowE .i32 21 A224 c225 l226, rowE .u8 33 A263 c264 l262, rowG 30 2 (.slice A283 l282.length c284) l282.length vs285, rowG 30 2 (.slice A315 l314.length c316) l314.length vs317] := hS325
       have hT326 : Turn [] w0 W292 ft291 W324 ft323 := hT326
       have hf330 : (fEach (pairE (intE .i64) (intE .i64)) vs317 l314).rd W324 ft323 := hU327 _ hf318
       refine ⟨(hS325.pick [1, 2] rfl rfl), ?_⟩
       refine gv1 11 142 (.int .i64 ((l314.length : Nat) : Int)) rfl (hS325.pick [1, 2] rfl rfl) ?_
       rcases if_in hE276 with ⟨h331, hE276⟩ | ⟨h331, hE276⟩
       ·refine gu1 12 143 (.bool true) rfl (hS325.pick [1, 2] rfl rfl) (fun w hSw => run_boolE (decide_eq_true h331) (by as_aux_lemma => kernel_rfl)) ?_
        refine gv1 13 144 (.bool true) rfl (hS325.pick [1, 2] rfl rfl) ?_
        refine gv1 14 145 (.bool true) rfl (hS325.pick [1, 2] rfl rfl) ?_
        refine gv1 15 146 (.slice A224 l226.length c225) rfl (hS325.pick [1, 2] rfl rfl) ?_
        refine gv1 16 147 (.slice A263 l262.length c264) rfl (hS325.pick [1, 2] rfl rfl) ?_
        refine gv1 17 148 (.slice A263 l262.length c264) rfl (hS325.pick [1, 2] rfl rfl) ?_
        have hP332 : St _ _ w320 ([] ++ [poolE ft323 W324, rowE .i32 21 A224 c225 l226, rowE .u8 33 A263 c264 l262, rowG 30 2 (.slice A283 l282.length c284) l282.length vs285, rowG 30 2 (.slice A315 l314.length c316) l314.length vs317]) := hS325
        obtain ⟨b334, hc333, hE276⟩ := bind_in hE276
        try dsimp only at hE276
        refine gdC 18 { dst := some 149, op := _, type := _, pos := _, after := _, guard := _ } (fPairs_R b334 w320) rfl (by as_aux_lemma => kernel_rfl) (fPairs_ok N l226 l262 l262 (0 : Int) (1 : Int) A224 c225 A263 c264 A263 c264 _ hc333 w320 (hP332.vwB 1 rfl) (hP332.vwB 2 rfl) (hP332.vwB 2 rfl) (MirW.at hcd hS325.below)) ?_
        rintro _ w335 ⟨rfl, hT337⟩
        have hS336 : St _ _ w335 [poolE ft323 W324, rowE .i32 21 A224 c225 l226, rowE .u8 33 A263 c264 l262, rowG 30 2 (.slice A283 l282.length c284) l282.length vs285, rowG 30 2 (.slice A315 l314.length c316) l314.length vs317] := hS325.take _ hT337
        refine ⟨(hS336.pick [1, 2] rfl rfl), ?_⟩
        refine gv1 19 150 (.bool b334) rfl (hS336.pick [1, 2] rfl rfl) ?_
        refine gv1 20 151 (.bool b334) rfl (hS336.pick [1, 2] rfl rfl) ?_
        cases b334 with
        | true =>
         try dsimp only at hE276
         refine gv1 21 152 (.slice A224 l226.length c225) rfl (hS336.pick [1, 2] rfl rfl) ?_
         obtain ⟨l338, hx339, hE276⟩ := bind_in hE276
         obtain ⟨A340, c341, hA342⟩ := cut_is A224 (Int.toNat (7 : Int)) (Int.toNat (133 : Int)) c225
         rw [← cutx_len hx339] at hA342
         refine gu1 22 153 (.slice A340 l338.length c341) rfl (hS336.pick [1, 2] rfl rfl) (fun w hSw => run_cut (TE := 21) (n := l226.length) (l := Int.toNat (7 : Int)) (h := Int.toNat (133 : Int)) (some (.int .i64 7)) (some (.int .i64 133)) rfl (by as_aux_lemma => kernel_rfl) (by as_aux_lemma => kernel_rfl) (by as_aux_lemma => kernel_rfl) (by as_aux_lemma => kernel_rfl) (fun _ => by kernel_rfl) (bnd_lh (cutx_in hx339).1 (cutx_in hx339).2.1 (Int.le_trans (cutx_in hx339).2.2.1 (by exact_mod_cast num_room (hS336.row 1 rfl).1))) hA342) ?_
         refine gv1 23 154 (.slice A263 l262.length c264) rfl (hS336.pick [1, 2] rfl rfl) ?_
         obtain ⟨l344, hx345, hE276⟩ := bind_in hE276
         obtain ⟨A346, c347, hA348⟩ := cut_is A263 (Int.toNat (7 : Int)) (Int.toNat (133 : Int)) c264
         rw [← cutx_len hx345] at hA348
         refine gu1 24 155 (.slice A346 l344.length c347) rfl (hS336.pick [1, 2] rfl rfl) (fun w hSw => run_cut (TE := 33) (n := l262.length) (l := Int.toNat (7 : Int)) (h := Int.toNat (133 : Int)) (some (.int .i64 7)) (some (.int .i64 133)) rfl (by as_aux_lemma => kernel_rfl) (by as_aux_lemma => kernel_rfl) (by as_aux_lemma => kernel_rfl) (by as_aux_lemma => kernel_rfl) (fun _ => by kernel_rfl) (bnd_lh (cutx_in hx345).1 (cutx_in hx345).2.1 (Int.le_trans (cutx_in hx345).2.2.1 (by exact_mod_cast num_room (hS336.row 2 rfl).1))) hA348) ?_
         refine gv1 25 156 (.slice A263 l262.length c264) rfl (hS336.pick [1, 2] rfl rfl) ?_
         obtain ⟨l350, hx351, hE276⟩ := bind_in hE276
         obtain ⟨A352, c353, hA354⟩ := cut_is A263 (Int.toNat (7 : Int)) (Int.toNat (133 : Int)) c264
         rw [← cutx_len hx351] at hA354
         refine gu1 26 157 (.slice A352 l350.length c353) rfl (hS336.pick [1, 2] rfl rfl) (fun w hSw => run_cut (TE := 33) (n := l262.length) (l := Int.toNat (7 : Int)) (h := Int.toNat (133 : Int)) (some (.int .i64 7)) (some (.int .i64 133)) rfl (by as_aux_lemma => kernel_rfl) (by as_aux_lemma => kernel_rfl) (by as_aux_lemma => kernel_rfl) (by as_aux_lemma => kernel_rfl) (fun _ => by kernel_rfl) (bnd_lh (cutx_in hx351).1 (cutx_in hx351).2.1 (Int.le_trans (cutx_in hx351).2.2.1 (by exact_mod_cast num_room (hS336.row 2 rfl).1))) hA354) ?_
         have hP356 : St _ _ w335 ([] ++ [poolE ft323 W324, rowE .i32 21 A224 c225 l226, rowE .u8 33 A263 c264 l262, rowG 30 2 (.slice A283 l282.length c284) l282.length vs285, rowG 30 2 (.slice A315 l314.length c316) l314.length vs317]) := hS336
         obtain ⟨b358, hc357, hE276⟩ := bind_in hE276
         try dsimp only at hE276
         refine gdC 27 { dst := some 158, op := _, type := _, pos := _, after := _, guard := _ } (fNests_R b358 w335) rfl (by as_aux_lemma => kernel_rfl) (fNests_ok N l338 l344 l350 (1 : Int) (1 : Int) A340 c341 A346 c347 A352 c353 _ hc357 w335 (Vw.of (num_cut (hS336.row 1 rfl).1 hx339 hA342) (cut_nn (hS336.row 1 rfl).2 hA342)) (Vw.of (num_cut (hS336.row 2 rfl).1 hx345 hA348) (cut_nn (hS336.row 2 rfl).2 hA348)) (Vw.of (num_cut (hS336.row 2 rfl).1 hx351 hA354) (cut_nn (hS336.row 2 rfl).2 hA354)) (MirW.at hcd hS336.below)) ?_
         rintro _ w359 ⟨rfl, hT361⟩
         have hS360 : St _ _ w359 [poolE ft323 W324, rowE .i32 21 A224 c225 l226, rowE .u8 33 A263 c264 l262, rowG 30 2 (.slice A283 l282.length c284) l282.length vs285, rowG 30 2 (.slice A315 l314.length c316) l314.length vs317] := hS336.take _ hT361
         refine ⟨(hS360.pick [1, 2] rfl rfl), ?_⟩
         refine gv1 28 159 (.bool b358) rfl (hS360.pick [1, 2] rfl rfl) ?_
         refine gv1 29 10 (.bool b358) rfl (hS360.pick [1, 2] rfl rfl) ?_
         refine gd_done (by as_aux_lemma => kernel_rfl) ?_
         refine gx_thenN ?_
         exact ⟨b358, ft323, W324, selfA_i (by as_aux_lemma => kernel_rfl), (Option.some.inj hE276), (hS360.pick [0] rfl rfl), (Turn.trans hT294 hT326)⟩
        | false =>
         try dsimp only at hE276
         refine gz1 21 152 rfl (hS336.pick [1, 2] rfl rfl) ?_
         refine gz1 22 153 rfl (hS336.pick [1, 2] rfl rfl) ?_
         refine gz1 23 154 rfl (hS336.pick [1, 2] rfl rfl) ?_
         refine gz1 24 155 rfl (hS336.pick [1, 2] rfl rfl) ?_
         refine gz1 25 156 rfl (hS336.pick [1, 2] rfl rfl) ?_
         refine gz1 26 157 rfl (hS336.pick [1, 2] rfl rfl) ?_
         refine gz1 27 158 rfl (hS336.pick [1, 2] rfl rfl) ?_
         refine gv1 28 159 (.bool false) rfl (hS336.pick [1, 2] rfl rfl) ?_
         refine gv1 29 10 (.bool false) rfl (hS336.pick [1, 2] rfl rfl) ?_
         refine gd_done (by as_aux_lemma => kernel_rfl) ?_
         refine gx_thenN ?_
         exact ⟨false, ft323, W324, selfA_i (by as_aux_lemma => kernel_rfl), (Option.some.inj hE276), (hS336.pick [0] rfl rfl), (Turn.trans hT294 hT326)⟩
       ·refine gu1 12 143 (.bool false) rfl (hS325.pick [1, 2] rfl rfl) (fun w hSw => run_boolE (decide_eq_false h331) (by as_aux_lemma => kernel_rfl)) ?_
        refine gv1 13 144 (.bool false) rfl (hS325.pick [1, 2] rfl rfl) ?_
        refine gv1 14 145 (.bool false) rfl (hS325.pick [1, 2] rfl rfl) ?_
        refine gz1 15 146 rfl (hS325.pick [1, 2] rfl rfl) ?_
        refine gz1 16 147 rfl (hS325.pick [1, 2] rfl rfl) ?_
        refine gz1 17 148 rfl (hS325.pick [1, 2] rfl rfl) ?_
        refine gz1 18 149 rfl (hS325.pick [1, 2] rfl rfl) ?_
        refine gv1 19 150 (.bool false) rfl (hS325.pick [1, 2] rfl rfl) ?_
        refine gv1 20 151 (.bool false) rfl (hS325.pick [1, 2] rfl rfl) ?_
        refine gz1 21 152 rfl (hS325.pick [1, 2] rfl rfl) ?_
        refine gz1 22 153 rfl (hS325.pick [1, 2] rfl rfl) ?_
        refine gz1 23 154 rfl (hS325.pick [1, 2] rfl rfl) ?_
        refine gz1 24 155 rfl (hS325.pick [1, 2] rfl rfl) ?_
        refine gz1 25 156 rfl (hS325.pick [1, 2] rfl rfl) ?_
        refine gz1 26 157 rfl (hS325.pick [1, 2] rfl rfl) ?_
        refine gz1 27 158 rfl (hS325.pick [1, 2] rfl rfl) ?_
        refine gv1 28 159 (.bool false) rfl (hS325.pick [1, 2] rfl rfl) ?_
        refine gv1 29 10 (.bool false) rfl (hS325.pick [1, 2] rfl rfl) ?_
        refine gd_done (by as_aux_lemma => kernel_rfl) ?_
        refine gx_thenN ?_
        exact ⟨false, ft323, W324, selfA_i (by as_aux_lemma => kernel_rfl), (Option.some.inj hE276), (hS325.pick [0] rfl rfl), (Turn.trans hT294 hT326)⟩
      ·refine gu1 4 135 (.bool false) rfl (hS293.pick [1, 2] rfl rfl) (fun w hSw => run_boolE (decide_eq_false h299) (by as_aux_lemma => kernel_rfl)) ?_
       refine gv1 5 136 (.bool false) rfl (hS293.pick [1, 2] rfl rfl) ?_
       refine gz1 6 137 rfl (hS293.pick [1, 2] rfl rfl) ?_
       refine gz1 7 138 rfl (hS293.pick [1, 2] rfl rfl) ?_
       refine gz1 8 139 rfl (hS293.pick [1, 2] rfl rfl) ?_
       refine gz1 9 140 rfl (hS293.pick [1, 2] rfl rfl) ?_
       refine gz1 10 141 rfl (hS293.pick [1, 2] rfl rfl) ?_
       refine gz1 11 142 rfl (hS293.pick [1, 2] rfl rfl) ?_
       refine gz1 12 143 rfl (hS293.pick [1, 2] rfl rfl) ?_
       refine gv1 13 144 (.bool false) rfl (hS293.pick [1, 2] rfl rfl) ?_
       refine gv1 14 145 (.bool false) rfl (hS293.pick [1, 2] rfl rfl) ?_
       refine gz1 15 146 rfl (hS293.pick [1, 2] rfl rfl) ?_
       refine gz1 16 147 rfl (hS293.pick [1, 2] rfl rfl) ?_
       refine gz1 17 148 rfl (hS293.pick [1, 2] rfl rfl) ?_
       refine gz1 18 149 rfl (hS293.pick [1, 2] rfl rfl) ?_
       refine gv1 19 150 (.bool false) rfl (hS293.pick [1, 2] rfl rfl) ?_
       refine gv1 20 151 (.bool false) rfl (hS293.pick [1, 2] rfl rfl) ?_
       refine gz1 21 152 rfl (hS293.pick [1, 2] rfl rfl) ?_
       refine gz1 22 153 rfl (hS293.pick [1, 2] rfl rfl) ?_
       refine gz1 23 154 rfl (hS293.pick [1, 2] rfl rfl) ?_
       refine gz1 24 155 rfl (hS293.pick [1, 2] rfl rfl) ?_
       refine gz1 25 156 rfl (hS293.pick [1, 2] rfl rfl) ?_
       refine gz1 26 157 rfl (hS293.pick [1, 2] rfl rfl) ?_
       refine gz1 27 158 rfl (hS293.pick [1, 2] rfl rfl) ?_
       refine gv1 28 159 (.bool false) rfl (hS293.pick [1, 2] rfl rfl) ?_
       refine gv1 29 10 (.bool false) rfl (hS293.pick [1, 2] rfl rfl) ?_
       refine gd_done (by as_aux_lemma => kernel_rfl) ?_
       refine gx_thenN ?_
       exact ⟨false, ft291, W292, selfA_i (by as_aux_lemma => kernel_rfl), (Option.some.inj hE276), (hS293.pick [0] rfl rfl), hT294⟩
     ·rintro _ w268 ⟨b274, ft271, W272, hq494, rfl, hS269, hT273⟩
      obtain ⟨u270, rfl⟩ := selfA_u hq494
      try dsimp only at hO277
      refine gx_seq (fun K362 hK363 => ?_)
      refine gx_region ?_
      refine gx_rA (st_made .i32 21 [40, 120, 41, 40, 40, 121, 41, 41] hS269 (by show 8 ≤ 1000000000; decide) (by as_aux_lemma => kernel_rfl)) ?_
      rintro _ w364 ⟨rfl, hS365⟩
      have hS365 : St _ _ w364 [poolE ft271 W272, rowE .i32 21 (some ⟨w268.heap.size, 0, none⟩) 8 ([40, 120, 41, 40, 40, 121, 41, 41])] := hS365
      refine gx_kA (.slice (some ⟨w268.heap.size, 0, none⟩) (([40, 120, 41, 40, 40, 121, 41, 41]).length) 8) w364 ?_
      refine gx_nil ?_
      refine gx_thenN ?_
      refine hK363 _ _ ?_
      refine gx_seq (fun K366 hK367 => ?_)
      refine gx_region ?_
      refine gx_kA (.slice (some ⟨w268.heap.size, 0, none⟩) (([40, 120, 41, 40, 40, 121, 41, 41]).length) 8) w364 ?_
      have hP368 : St _ _ w364 ([] ++ [poolE ft271 W272, rowE .i32 21 (some ⟨w268.heap.size, 0, none⟩) 8 ([40, 120, 41, 40, 40, 121, 41, 41])]) := hS365
      obtain ⟨l370, hc369, hO277⟩ := bind_in hO277
      try dsimp only at hO277
      refine gx_cA (kClasses_R l370 w364) (kClasses_ok N ([40, 120, 41, 40, 40, 121, 41, 41]) (some ⟨w268.heap.size, 0, none⟩) 8 _ hc369 w364 (hP368.vwB 1 rfl)) ?_
      rintro _ w373 ⟨A371, c372, rfl, hT375⟩
      have hS374 : St _ _ w373 [poolE ft271 W272, rowE .i32 21 (some ⟨w268.heap.size, 0, none⟩) 8 ([40, 120, 41, 40, 40, 121, 41, 41]), rowE .u8 33 A371 c372 l370] := hS365.take _ hT375
      refine gx_kA (.slice A371 l370.length c372) w373 ?_
      refine gx_nil ?_
      refine gx_thenN ?_
      refine hK367 _ _ ?_
      refine gx_seq (fun K376 hK377 => ?_)
      refine gx_region ?_
      refine gx_kA (.int .u8 14) w373 (gx_kA (.int .u8 1) w373 (gx_kA (.int .u8 14) w373 (gx_kA (.int .u8 14) w373 ?_)))
      refine gx_rA (st_made .u8 33 [14, 1, 14, 9, 9, 14, 9, 10] hS374 (by show 8 ≤ 1000000000; decide) (by as_aux_lemma => kernel_rfl)) ?_
      rintro _ w378 ⟨rfl, hS379⟩
      have hS379 : St _ _ w378 [poolE ft271 W272, rowE .i32 21 (some ⟨w268.heap.size, 0, none⟩) 8 ([40, 120, 41, 40, 40, 121, 41, 41]), rowE .u8 33 A371 c372 l370, rowE .u8 33 (some ⟨w373.heap.size, 0, none⟩) 8 ([14, 1, 14, 9, 9, 14, 9, 10])] := hS379
      refine gx_kA (.slice (some ⟨w373.heap.size, 0, none⟩) (([14, 1, 14, 9, 9, 14, 9, 10]).length) 8) w378 ?_
      refine gx_nil ?_
      refine gx_thenN ?_
      refine hK377 _ _ ?_
      refine gx_seq (fun K380 hK381 => ?_)
      refine gd_start (fun w => St [] w0 w [poolE ft271 W272, rowE .i32 21 (some ⟨w268.heap.size, 0, none⟩) 8 ([40, 120, 41, 40, 40, 121, 41, 41]), rowE .u8 33 A371 c372 l370, rowE .u8 33 (some ⟨w373.heap.size, 0, none⟩) 8 ([14, 1, 14, 9, 9, 14, 9, 10])]) 10 #[false, false, false, false, false, false, false, false, false, false] (by as_aux_lemma => kernel_rfl) (by as_aux_lemma => kernel_rfl) ?_
      have hS384 := hS379.drew
      generalize w378.drew = w383 at hS384 ⊢
      obtain ⟨lz19_381o0_1, hmz19_381o0_2, hO277⟩ := bind_in hO277
      obtain ⟨lz19_381o1_1, hmz19_381o1_2, hO277⟩ := bind_in hO277
      obtain ⟨lz19_381o2_1, hmz19_381o2_2, hO277⟩ := bind_in hO277
      obtain ⟨⟨lz19_381o4_3, xz19_381o4_6⟩, hcz19_381o4_2, hO277⟩ := bind_in hO277
      try dsimp only at hO277
      refine gd_share (X := (Option Addr) × Nat × (Option Addr) × Nat × (Option Addr) × Nat × (Option Addr) × Nat) (fun ⟨Az19_381o0_5, cz19_381o0_6, Az19_381o1_5, cz19_381o1_6, Az19_381o2_5, cz19_381o2_6, Az19_381o4_4, cz19_381o4_5⟩ => ⟨((.bool false) :: (.int .u8 1) :: (.int .u8 2) :: (.int .u8 14) :: (.bool b8) :: (.bool b127) :: dd u270 6 2 ((u185 8) :: (u223 9) :: (.bool b274) :: (.slice (some ⟨w268.heap.size, 0, none⟩) (([40, 120, 41, 40, 40, 121, 41, 41]).length) 8) :: (.slice A371 l370.length c372) :: (.slice (some ⟨w373.heap.size, 0, none⟩) (([14, 1, 14, 9, 9, 14, 9, 10]).length) 8) :: (.slice Az19_381o4_4 lz19_381o4_3.length cz19_381o4_5) :: (.int .i64 xz19_381o4_6) :: un 5 (dd u7 21 60 (dd u126 81 34 (dd u185 115 7 (dd u223 122 7 (dd u270 129 31 ((.slice (some ⟨w268.heap.size, 0, none⟩) (([40, 120, 41, 40, 40, 121, 41, 41]).length) 8) :: (.slice (some ⟨w268.heap.size, 0, none⟩) (([40, 120, 41, 40, 40, 121, 41, 41]).length) 8) :: (.slice A371 l370.length c372) :: (.int .u8 14) :: (.int .u8 1) :: (.int .u8 14) :: (.int .u8 14) :: (.slice (some ⟨w373.heap.size, 0, none⟩) (([14, 1, 14, 9, 9, 14, 9, 10]).length) 8) :: (.tuple #[.slice Az19_381o4_4 lz19_381o4_3.length cz19_381o4_5, .int .i64 xz19_381o4_6]) :: (.slice Az19_381o0_5 lz19_381o0_1.length cz19_381o0_6) :: (.slice Az19_381o1_5 lz19_381o1_1.length cz19_381o1_6) :: (.slice Az19_381o2_5 lz19_381o2_1.length cz19_381o2_6) :: (.int .u8 1) :: (.tuple #[.slice Az19_381o4_4 lz19_381o4_3.length cz19_381o4_5, .int .i64 xz19_381o4_6]) :: (.slice Az19_381o4_4 lz19_381o4_3.length cz19_381o4_5) :: (.int .i64 xz19_381o4_6) :: un 60 ([]))))))))).toArray, []⟩) (fun ⟨Az19_381o0_5, cz19_381o0_6, Az19_381o1_5, cz19_381o1_6, Az19_381o2_5, cz19_381o2_6, Az19_381o4_4, cz19_381o4_5⟩ w => St [] w0 w [poolE ft271 W272, rowE .i32 21 (some ⟨w268.heap.size, 0, none⟩) 8 ([40, 120, 41, 40, 40, 121, 41, 41]), rowE .u8 33 A371 c372 l370, rowE .u8 33 (some ⟨w373.heap.size, 0, none⟩) 8 ([14, 1, 14, 9, 9, 14, 9, 10]), rowE .i32 21 Az19_381o0_5 cz19_381o0_6 lz19_381o0_1, rowE .u8 33 Az19_381o1_5 cz19_381o1_6 lz19_381o1_1, rowE .u8 33 Az19_381o2_5 cz19_381o2_6 lz19_381o2_1, rowE .u8 33 Az19_381o4_4 cz19_381o4_5 lz19_381o4_3]) ?_ ?_
      ·rintro ⟨Az19_381o0_5, cz19_381o0_6, Az19_381o1_5, cz19_381o1_6, Az19_381o2_5, cz19_381o2_6, Az19_381o4_4, cz19_381o4_5⟩ w385 hS386
       have hS386 : St _ _ w385 [poolE ft271 W272, rowE .i32 21 (some ⟨w268.heap.size, 0, none⟩) 8 ([40, 120, 41, 40, 40, 121, 41, 41]), rowE .u8 33 A371 c372 l370, rowE .u8 33 (some ⟨w373.heap.size, 0, none⟩) 8 ([14, 1, 14, 9, 9, 14, 9, 10]), rowE .i32 21 Az19_381o0_5 cz19_381o0_6 lz19_381o0_1, rowE .u8 33 Az19_381o1_5 cz19_381o1_6 lz19_381o1_1, rowE .u8 33 Az19_381o2_5 cz19_381o2_6 lz19_381o2_1, rowE .u8 33 Az19_381o4_4 cz19_381o4_5 lz19_381o4_3] := hS386
       show WQ _ _ ⟨((.bool false) :: (.int .u8 1) :: (.int .u8 2) :: (.int .u8 14) :: (.bool b8) :: (.bool b127) :: dd u270 6 2 ((u185 8) :: (u223 9) :: (.bool b274) :: (.slice (some ⟨w268.heap.size, 0, none⟩) (([40, 120, 41, 40, 40, 121, 41, 41]).length) 8) :: (.slice A371 l370.length c372) :: (.slice (some ⟨w373.heap.size, 0, none⟩) (([14, 1, 14, 9, 9, 14, 9, 10]).length) 8) :: (.slice Az19_381o4_4 lz19_381o4_3.length cz19_381o4_5) :: (.int .i64 xz19_381o4_6) :: un 5 (dd u7 21 60 (dd u126 81 34 (dd u185 115 7 (dd u223 122 7 (dd u270 129 31 ((.slice (some ⟨w268.heap.size, 0, none⟩) (([40, 120, 41, 40, 40, 121, 41, 41]).length) 8) :: (.slice (some ⟨w268.heap.size, 0, none⟩) (([40, 120, 41, 40, 40, 121, 41, 41]).length) 8) :: (.slice A371 l370.length c372) :: (.int .u8 14) :: (.int .u8 1) :: (.int .u8 14) :: (.int .u8 14) :: (.slice (some ⟨w373.heap.size, 0, none⟩) (([14, 1, 14, 9, 9, 14, 9, 10]).length) 8) :: (.tuple #[.slice Az19_381o4_4 lz19_381o4_3.length cz19_381o4_5, .int .i64 xz19_381o4_6]) :: (.slice Az19_381o0_5 lz19_381o0_1.length cz19_381o0_6) :: (.slice Az19_381o1_5 lz19_381o1_1.length cz19_381o1_6) :: (.slice Az19_381o2_5 lz19_381o2_1.length cz19_381o2_6) :: (.int .u8 1) :: (.tuple #[.slice Az19_381o4_4 lz19_381o4_3.length cz19_381o4_5, .int .i64 xz19_381o4_6]) :: (.slice Az19_381o4_4 lz19_381o4_3.length cz19_381o4_5) :: (.int .i64 xz19_381o4_6) :: un 60 ([]))))))))).toArray, []⟩ _
       refine gx_thenN ?_
       refine hK381 _ _ ?_
       refine gx_seq (fun K387 hK388 => ?_)
       refine gx_region ?_
       refine gx_kA (.slice (some ⟨w268.heap.size, 0, none⟩) (([40, 120, 41, 40, 40, 121, 41, 41]).length) 8) w385 (gx_kA (.slice A371 l370.length c372) w385 ?_)
       obtain ⟨l389, hx390, hO277⟩ := bind_in hO277
       obtain ⟨A391, c392, hA393⟩ := cut_is A371 (Int.toNat (1 : Int)) (Int.toNat ((l370.length : Nat) : Int)) c372
       rw [← cutx_len hx390] at hA393
       refine gx_vA (.slice A391 l389.length c392) w385 (run_cut (TE := 33) (n := l370.length) (l := Int.toNat (1 : Int)) (h := Int.toNat ((l370.length : Nat) : Int)) (some (.int .i64 1)) none rfl (by as_aux_lemma => kernel_rfl) (by as_aux_lemma => kernel_rfl) (by as_aux_lemma => kernel_rfl) (by as_aux_lemma => kernel_rfl) (fun _ => by kernel_rfl) (bnd_l (cutx_in hx390).1 (cutx_in hx390).2.1) hA393) ?_
       refine gx_kA (.slice A371 l370.length c372) w385 (gx_kA (.int .u8 1) w385 ?_)
       have hP395 : St _ _ w385 ([] ++ [poolE ft271 W272, rowE .i32 21 (some ⟨w268.heap.size, 0, none⟩) 8 ([40, 120, 41, 40, 40, 121, 41, 41]), rowE .u8 33 A371 c372 l370, rowE .u8 33 (some ⟨w373.heap.size, 0, none⟩) 8 ([14, 1, 14, 9, 9, 14, 9, 10]), rowE .i32 21 Az19_381o0_5 cz19_381o0_6 lz19_381o0_1, rowE .u8 33 Az19_381o1_5 cz19_381o1_6 lz19_381o1_1, rowE .u8 33 Az19_381o2_5 cz19_381o2_6 lz19_381o2_1, rowE .u8 33 Az19_381o4_4 cz19_381o4_5 lz19_381o4_3]) := hS386
       obtain ⟨⟨l397, x400⟩, hc396, hO277⟩ := bind_in hO277
       try dsimp only at hO277
       refine gx_cA (pPairs_R (l397, x400) w385) (pPairs_ok N ([40, 120, 41, 40, 40, 121, 41, 41]) l389 l370 (0 : Int) (1 : Int) (some ⟨w268.heap.size, 0, none⟩) 8 A391 c392 A371 c372 _ hc396 w385 (hP395.vwB 1 rfl) (Vw.of (num_cut (hS386.row 2 rfl).1 hx390 hA393) (cut_nn (hS386.row 2 rfl).2 hA393)) (hP395.vwB 2 rfl) (MirW.at hcd hS386.below)) ?_
       rintro _ w401 ⟨A398, c399, rfl, hT403⟩
       have hS402 : St _ _ w401 [poolE ft271 W272, rowE .i32 21 (some ⟨w268.heap.size, 0, none⟩) 8 ([40, 120, 41, 40, 40, 121, 41, 41]), rowE .u8 33 A371 c372 l370, rowE .u8 33 (some ⟨w373.heap.size, 0, none⟩) 8 ([14, 1, 14, 9, 9, 14, 9, 10]), rowE .i32 21 Az19_381o0_5 cz19_381o0_6 lz19_381o0_1, rowE .u8 33 Az19_381o1_5 cz19_381o1_6 lz19_381o1_1, rowE .u8 33 Az19_381o2_5 cz19_381o2_6 lz19_381o2_1, rowE .u8 33 Az19_381o4_4 cz19_381o4_5 lz19_381o4_3, rowE .u8 33 A398 c399 l397] := hS386.take _ hT403
       refine gx_kA (.tuple #[.slice A398 l397.length c399, .int .i64 x400]) w401 (gx_kA (.slice A398 l397.length c399) w401 (gx_kA (.int .i64 x400) w401 (gx_kA (.slice A398 l397.length c399) w401 (gx_kA (.int .i64 x400) w401 ?_))))
       refine gx_nil ?_
       refine gx_thenN ?_
       refine hK388 _ _ ?_
       refine gx_seq (fun K404 hK405 => ?_)
       refine gx_region ?_
       refine gx_kA (.slice (some ⟨w268.heap.size, 0, none⟩) (([40, 120, 41, 40, 40, 121, 41, 41]).length) 8) w401 (gx_kA (.slice A371 l370.length c372) w401 (gx_kA (.int .u8 1) w401 ?_))
       have hS406 : St _ _ w401 [poolE ft271 W272, rowE .i32 21 (some ⟨w268.heap.size, 0, none⟩) 8 ([40, 120, 41, 40, 40, 121, 41, 41]), rowE .u8 33 A371 c372 l370, rowE .u8 33 (some ⟨w373.heap.size, 0, none⟩) 8 ([14, 1, 14, 9, 9, 14, 9, 10]), rowE .i32 21 Az19_381o0_5 cz19_381o0_6 lz19_381o0_1, rowE .u8 33 Az19_381o1_5 cz19_381o1_6 lz19_381o1_1, rowE .u8 33 Az19_381o2_5 cz19_381o2_6 lz19_381o2_1, rowE .u8 33 Az19_381o4_4 cz19_381o4_5 lz19_381o4_3, rowE .u8 33 A398 c399 l397, rowE .u8 33 none 0 ([])] := hS402.nilrow .u8 33
       have hP407 : St _ _ w401 ([] ++ [poolE ft271 W272, rowE .i32 21 (some ⟨w268.heap.size, 0, none⟩) 8 ([40, 120, 41, 40, 40, 121, 41, 41]), rowE .u8 33 A371 c372 l370, rowE .u8 33 (some ⟨w373.heap.size, 0, none⟩) 8 ([14, 1, 14, 9, 9, 14, 9, 10]), rowE .i32 21 Az19_381o0_5 cz19_381o0_6 lz19_381o0_1, rowE .u8 33 Az19_381o1_5 cz19_381o1_6 lz19_381o1_1, rowE .u8 33 Az19_381o2_5 cz19_381o2_6 lz19_381o2_1, rowE .u8 33 Az19_381o4_4 cz19_381o4_5 lz19_381o4_3, rowE .u8 33 A398 c399 l397, rowE .u8 33 none 0 ([])]) := hS406
       obtain ⟨⟨l409, x412⟩, hc408, hO277⟩ := bind_in hO277
       try dsimp only at hO277
       refine gx_cA (pPairs_R (l409, x412) w401) (pPairs_ok N ([40, 120, 41, 40, 40, 121, 41, 41]) l370 ([]) (0 : Int) (1 : Int) (some ⟨w268.heap.size, 0, none⟩) 8 A371 c372 none 0 _ hc408 w401 (hP407.vwB 1 rfl) (hP407.vwB 2 rfl) (hP407.vwB 9 rfl) (MirW.at hcd hS406.below)) ?_
       rintro _ w413 ⟨A410, c411, rfl, hT415⟩
       have hS414 : St _ _ w413 [poolE ft271 W272, rowE .i32 21 (some ⟨w268.heap.size, 0, none⟩) 8 ([40, 120, 41, 40, 40, 121, 41, 41]), rowE .u8 33 A371 c372 l370, rowE .u8 33 (some ⟨w373.heap.size, 0, none⟩) 8 ([14, 1, 14, 9, 9, 14, 9, 10]), rowE .i32 21 Az19_381o0_5 cz19_381o0_6 lz19_381o0_1, rowE .u8 33 Az19_381o1_5 cz19_381o1_6 lz19_381o1_1, rowE .u8 33 Az19_381o2_5 cz19_381o2_6 lz19_381o2_1, rowE .u8 33 Az19_381o4_4 cz19_381o4_5 lz19_381o4_3, rowE .u8 33 A398 c399 l397, rowE .u8 33 none 0 ([]), rowE .u8 33 A410 c411 l409] := hS406.take _ hT415
       refine gx_kA (.tuple #[.slice A410 l409.length c411, .int .i64 x412]) w413 (gx_kA (.slice A410 l409.length c411) w413 (gx_kA (.int .i64 x412) w413 (gx_kA (.slice A410 l409.length c411) w413 (gx_kA (.int .i64 x412) w413 ?_))))
       refine gx_nil ?_
       refine gx_thenN ?_
       refine hK405 _ _ ?_
       obtain ⟨c420, hE421, hO422⟩ := bind_in hO277
       refine gx_cut (fun a w => ∃ (b419 : Bool), selfA (fun u418 => ⟨((.bool false) :: (.int .u8 1) :: (.int .u8 2) :: (.int .u8 14) :: (.bool b8) :: (.bool b127) :: dd u270 6 2 ((u185 8) :: (u223 9) :: (.bool b274) :: dd u418 11 4 ((.int .i64 xz19_381o4_6) :: (u418 16) :: (.int .i64 x400) :: (u418 18) :: (.int .i64 x412) :: (.bool b419) :: dd u7 21 60 (dd u126 81 34 (dd u185 115 7 (dd u223 122 7 (dd u270 129 31 (dd u418 160 3 ((.int .u8 14) :: (.int .u8 1) :: (.int .u8 14) :: (.int .u8 14) :: dd u418 167 5 ((.int .u8 1) :: dd u418 173 2 ((.int .i64 xz19_381o4_6) :: dd u418 176 5 ((.int .u8 1) :: dd u418 182 2 ((.int .i64 x400) :: dd u418 185 3 ((.int .u8 1) :: dd u418 189 2 ((.int .i64 x412) :: dd u418 192 31 (un 13 ([]))))))))))))))))).toArray, []⟩) a ∧ b419 = c420 ∧ St [] w0 w [poolE ft271 W272]) ?_ ?_
       ·refine gx_region ?_
        refine gx_kA (.slice (some ⟨w268.heap.size, 0, none⟩) (([40, 120, 41, 40, 40, 121, 41, 41]).length) 8) w413 (gx_kA (.slice (some ⟨w373.heap.size, 0, none⟩) (([14, 1, 14, 9, 9, 14, 9, 10]).length) 8) w413 (gx_kA (.slice A371 l370.length c372) w413 (gx_kA (.int .u8 1) w413 ?_)))
        obtain ⟨c427, hE428, hO429⟩ := bind_in hE421
        refine gx_part (l1 := [_, _, _, _, _, _, _, _]) (fun a w => ∃ (b426 : Bool), selfA (fun u425 => ⟨((.bool false) :: (.int .u8 1) :: (.int .u8 2) :: (.int .u8 14) :: (.bool b8) :: (.bool b127) :: dd u270 6 2 ((u185 8) :: (u223 9) :: (.bool b274) :: (.slice (some ⟨w268.heap.size, 0, none⟩) (([40, 120, 41, 40, 40, 121, 41, 41]).length) 8) :: (.slice A371 l370.length c372) :: (.slice (some ⟨w373.heap.size, 0, none⟩) (([14, 1, 14, 9, 9, 14, 9, 10]).length) 8) :: (u425 14) :: (.int .i64 xz19_381o4_6) :: (u425 16) :: (.int .i64 x400) :: (u425 18) :: (.int .i64 x412) :: undef :: dd u7 21 60 (dd u126 81 34 (dd u185 115 7 (dd u223 122 7 (dd u270 129 31 (dd u425 160 3 ((.int .u8 14) :: (.int .u8 1) :: (.int .u8 14) :: (.int .u8 14) :: dd u425 167 5 ((.int .u8 1) :: dd u425 173 2 ((.int .i64 xz19_381o4_6) :: dd u425 176 5 ((.int .u8 1) :: dd u425 182 2 ((.int .i64 x400) :: dd u425 185 3 ((.int .u8 1) :: dd u425 189 2 ((.int .i64 x412) :: dd u425 192 3 ((.int .u8 1) :: dd u425 196 7 ((.bool b426) :: un 32 ([]))))))))))))))))).toArray, []⟩) a ∧ b426 = c427 ∧ St [] w0 w [poolE ft271 W272, rowE .i32 21 (some ⟨w268.heap.size, 0, none⟩) 8 ([40, 120, 41, 40, 40, 121, 41, 41]), rowE .u8 33 A371 c372 l370, rowE .u8 33 (some ⟨w373.heap.size, 0, none⟩) 8 ([14, 1, 14, 9, 9, 14, 9, 10])]) rfl ?_ ?_
        ·have hP431 : St _ _ w413 ([] ++ [poolE ft271 W272, rowE .i32 21 (some ⟨w268.heap.size, 0, none⟩) 8 ([40, 120, 41, 40, 40, 121, 41, 41]), rowE .u8 33 A371 c372 l370, rowE .u8 33 (some ⟨w373.heap.size, 0, none⟩) 8 ([14, 1, 14, 9, 9, 14, 9, 10]), rowE .i32 21 Az19_381o0_5 cz19_381o0_6 lz19_381o0_1, rowE .u8 33 Az19_381o1_5 cz19_381o1_6 lz19_381o1_1, rowE .u8 33 Az19_381o2_5 cz19_381o2_6 lz19_381o2_1, rowE .u8 33 Az19_381o4_4 cz19_381o4_5 lz19_381o4_3, rowE .u8 33 A398 c399 l397, rowE .u8 33 none 0 ([]), rowE .u8 33 A410 c411 l409]) := hS414
         obtain ⟨b433, hc432, hE428⟩ := bind_in hE428
         try dsimp only at hE428
         refine gx_cA (fPairs_R b433 w413) (fPairs_ok N ([40, 120, 41, 40, 40, 121, 41, 41]) ([14, 1, 14, 9, 9, 14, 9, 10]) l370 (0 : Int) (1 : Int) (some ⟨w268.heap.size, 0, none⟩) 8 (some ⟨w373.heap.size, 0, none⟩) 8 A371 c372 _ hc432 w413 (hP431.vwB 1 rfl) (hP431.vwB 3 rfl) (hP431.vwB 2 rfl) (MirW.at hcd hS414.below)) ?_
         rintro _ w434 ⟨rfl, hT436⟩
         have hS435 : St _ _ w434 [poolE ft271 W272, rowE .i32 21 (some ⟨w268.heap.size, 0, none⟩) 8 ([40, 120, 41, 40, 40, 121, 41, 41]), rowE .u8 33 A371 c372 l370, rowE .u8 33 (some ⟨w373.heap.size, 0, none⟩) 8 ([14, 1, 14, 9, 9, 14, 9, 10]), rowE .i32 21 Az19_381o0_5 cz19_381o0_6 lz19_381o0_1, rowE .u8 33 Az19_381o1_5 cz19_381o1_6 lz19_381o1_1, rowE .u8 33 Az19_381o2_5 cz19_381o2_6 lz19_381o2_1, rowE .u8 33 Az19_381o4_4 cz19_381o4_5 lz19_381o4_3, rowE .u8 33 A398 c399 l397, rowE .u8 33 none 0 ([]), rowE .u8 33 A410 c411 l409] := hS414.take _ hT436
         refine gx_kA (.bool b433) w434 ?_
         cases b433 with
         | true =>
          try dsimp only at hE428
          refine gx_kA (.slice (some ⟨w268.heap.size, 0, none⟩) (([40, 120, 41, 40, 40, 121, 41, 41]).length) 8) w434 (gx_kA (.slice (some ⟨w373.heap.size, 0, none⟩) (([14, 1, 14, 9, 9, 14, 9, 10]).length) 8) w434 (gx_kA (.slice (some ⟨w373.heap.size, 0, none⟩) (([14, 1, 14, 9, 9, 14, 9, 10]).length) 8) w434 (gx_kA (.int .u8 1) w434 ?_)))
          have hP437 : St _ _ w434 ([] ++ [poolE ft271 W272, rowE .i32 21 (some ⟨w268.heap.size, 0, none⟩) 8 ([40, 120, 41, 40, 40, 121, 41, 41]), rowE .u8 33 A371 c372 l370, rowE .u8 33 (some ⟨w373.heap.size, 0, none⟩) 8 ([14, 1, 14, 9, 9, 14, 9, 10]), rowE .i32 21 Az19_381o0_5 cz19_381o0_6 lz19_381o0_1, rowE .u8 33 Az19_381o1_5 cz19_381o1_6 lz19_381o1_1, rowE .u8 33 Az19_381o2_5 cz19_381o2_6 lz19_381o2_1, rowE .u8 33 Az19_381o4_4 cz19_381o4_5 lz19_381o4_3, rowE .u8 33 A398 c399 l397, rowE .u8 33 none 0 ([]), rowE .u8 33 A410 c411 l409]) := hS435
          obtain ⟨b439, hc438, hE428⟩ := bind_in hE428
          try dsimp only at hE428
          refine gx_cA (fPairs_R b439 w434) (fPairs_ok N ([40, 120, 41, 40, 40, 121, 41, 41]) ([14, 1, 14, 9, 9, 14, 9, 10]) ([14, 1, 14, 9, 9, 14, 9, 10]) (1 : Int) (1 : Int) (some ⟨w268.heap.size, 0, none⟩) 8 (some ⟨w373.heap.size, 0, none⟩) 8 (some ⟨w373.heap.size, 0, none⟩) 8 _ hc438 w434 (hP437.vwB 1 rfl) (hP437.vwB 3 rfl) (hP437.vwB 3 rfl) (MirW.at hcd hS435.below)) ?_
          rintro _ w440 ⟨rfl, hT442⟩
          have hS441 : St _ _ w440 [poolE ft271 W272, rowE .i32 21 (some ⟨w268.heap.size, 0, none⟩) 8 ([40, 120, 41, 40, 40, 121, 41, 41]), rowE .u8 33 A371 c372 l370, rowE .u8 33 (some ⟨w373.heap.size, 0, none⟩) 8 ([14, 1, 14, 9, 9, 14, 9, 10]), rowE .i32 21 Az19_381o0_5 cz19_381o0_6 lz19_381o0_1, rowE .u8 33 Az19_381o1_5 cz19_381o1_6 lz19_381o1_1, rowE .u8 33 Az19_381o2_5 cz19_381o2_6 lz19_381o2_1, rowE .u8 33 Az19_381o4_4 cz19_381o4_5 lz19_381o4_3, rowE .u8 33 A398 c399 l397, rowE .u8 33 none 0 ([]), rowE .u8 33 A410 c411 l409] := hS435.take _ hT442
          refine gx_kA (.bool b439) w440 ?_
          refine gx_nil ?_
          refine gx_thenN ?_
          exact ⟨b439, selfA_i (by as_aux_lemma => kernel_rfl), (Option.some.inj hE428), (hS441.pick [0, 1, 2, 3] rfl rfl)⟩
         | false =>
          try dsimp only at hE428
          refine gx_oA (gx_oA (gx_oA (gx_oA (gx_oA (gx_kA (.bool false) w434 ?_)))))
          refine gx_nil ?_
          refine gx_thenN ?_
          exact ⟨false, selfA_i (by as_aux_lemma => kernel_rfl), (Option.some.inj hE428), (hS435.pick [0, 1, 2, 3] rfl rfl)⟩
        ·rintro _ w423 ⟨b426, hq430, rfl, hS424⟩
         obtain ⟨u425, rfl⟩ := selfA_u hq430
         try dsimp only at hO429
         obtain ⟨c447, hE448, hO449⟩ := bind_in hO429
         refine gx_part (l1 := [_, _, _, _, _, _, _]) (fun a w => ∃ (b446 : Bool), selfA (fun u445 => ⟨((.bool false) :: (.int .u8 1) :: (.int .u8 2) :: (.int .u8 14) :: (.bool b8) :: (.bool b127) :: dd u270 6 2 ((u185 8) :: (u223 9) :: (.bool b274) :: dd u445 11 3 ((u425 14) :: (.int .i64 xz19_381o4_6) :: (u425 16) :: (.int .i64 x400) :: (u425 18) :: (.int .i64 x412) :: undef :: dd u7 21 60 (dd u126 81 34 (dd u185 115 7 (dd u223 122 7 (dd u270 129 31 (dd u425 160 3 ((.int .u8 14) :: (.int .u8 1) :: (.int .u8 14) :: (.int .u8 14) :: dd u425 167 5 ((.int .u8 1) :: dd u425 173 2 ((.int .i64 xz19_381o4_6) :: dd u425 176 5 ((.int .u8 1) :: dd u425 182 2 ((.int .i64 x400) :: dd u425 185 3 ((.int .u8 1) :: dd u425 189 2 ((.int .i64 x412) :: dd u425 192 3 ((.int .u8 1) :: dd u425 196 7 ((.bool b426) :: dd u445 204 6 ((.bool b446) :: un 25 ([]))))))))))))))))))).toArray, []⟩) a ∧ b446 = c447 ∧ St [] w0 w [poolE ft271 W272]) rfl ?_ ?_
         ·refine gx_kA (.bool b426) w423 ?_
          cases b426 with
          | true =>
           try dsimp only at hE448
           refine gx_kA (.slice (some ⟨w268.heap.size, 0, none⟩) (([40, 120, 41, 40, 40, 121, 41, 41]).length) 8) w423 (gx_kA (.slice (some ⟨w373.heap.size, 0, none⟩) (([14, 1, 14, 9, 9, 14, 9, 10]).length) 8) w423 (gx_kA (.slice A371 l370.length c372) w423 (gx_kA (.int .u8 2) w423 ?_)))
           have hP451 : St _ _ w423 ([] ++ [poolE ft271 W272, rowE .i32 21 (some ⟨w268.heap.size, 0, none⟩) 8 ([40, 120, 41, 40, 40, 121, 41, 41]), rowE .u8 33 A371 c372 l370, rowE .u8 33 (some ⟨w373.heap.size, 0, none⟩) 8 ([14, 1, 14, 9, 9, 14, 9, 10])]) := hS424
           obtain ⟨b453, hc452, hE448⟩ := bind_in hE448
           try dsimp only at hE448
           refine gx_cA (fNests_R b453 w423) (fNests_ok N ([40, 120, 41, 40, 40, 121, 41, 41]) ([14, 1, 14, 9, 9, 14, 9, 10]) l370 (0 : Int) (2 : Int) (some ⟨w268.heap.size, 0, none⟩) 8 (some ⟨w373.heap.size, 0, none⟩) 8 A371 c372 _ hc452 w423 (hP451.vwB 1 rfl) (hP451.vwB 3 rfl) (hP451.vwB 2 rfl) (MirW.at hcd hS424.below)) ?_
           rintro _ w454 ⟨rfl, hT456⟩
           have hS455 : St _ _ w454 [poolE ft271 W272, rowE .i32 21 (some ⟨w268.heap.size, 0, none⟩) 8 ([40, 120, 41, 40, 40, 121, 41, 41]), rowE .u8 33 A371 c372 l370, rowE .u8 33 (some ⟨w373.heap.size, 0, none⟩) 8 ([14, 1, 14, 9, 9, 14, 9, 10])] := hS424.take _ hT456
           refine gx_kA (.bool b453) w454 ?_
           refine gx_nil ?_
           refine gx_thenN ?_
           exact ⟨b453, selfA_i (by as_aux_lemma => kernel_rfl), (Option.some.inj hE448), (hS455.pick [0] rfl rfl)⟩
          | false =>
           try dsimp only at hE448
           refine gx_oA (gx_oA (gx_oA (gx_oA (gx_oA (gx_kA (.bool false) w423 ?_)))))
           refine gx_nil ?_
           refine gx_thenN ?_
           exact ⟨false, selfA_i (by as_aux_lemma => kernel_rfl), (Option.some.inj hE448), (hS424.pick [0] rfl rfl)⟩
         ·rintro _ w443 ⟨b446, hq450, rfl, hS444⟩
          obtain ⟨u445, rfl⟩ := selfA_u hq450
          try dsimp only at hO449
          obtain ⟨c461, hE462, hO463⟩ := bind_in hO449
          refine gx_part (l1 := [_, _, _, _]) (fun a w => ∃ (b460 : Bool), selfA (fun u459 => ⟨((.bool false) :: (.int .u8 1) :: (.int .u8 2) :: (.int .u8 14) :: (.bool b8) :: (.bool b127) :: dd u270 6 2 ((u185 8) :: (u223 9) :: (.bool b274) :: dd u445 11 3 ((u425 14) :: (.int .i64 xz19_381o4_6) :: (u425 16) :: (.int .i64 x400) :: (u425 18) :: (.int .i64 x412) :: undef :: dd u7 21 60 (dd u126 81 34 (dd u185 115 7 (dd u223 122 7 (dd u270 129 31 (dd u425 160 3 ((.int .u8 14) :: (.int .u8 1) :: (.int .u8 14) :: (.int .u8 14) :: dd u425 167 5 ((.int .u8 1) :: dd u425 173 2 ((.int .i64 xz19_381o4_6) :: dd u425 176 5 ((.int .u8 1) :: dd u425 182 2 ((.int .i64 x400) :: dd u425 185 3 ((.int .u8 1) :: dd u425 189 2 ((.int .i64 x412) :: dd u425 192 3 ((.int .u8 1) :: dd u425 196 7 ((.bool b426) :: dd u445 204 6 ((.bool b446) :: dd u459 211 3 ((.bool b460) :: un 21 ([])))))))))))))))))))).toArray, []⟩) a ∧ b460 = c461 ∧ St [] w0 w [poolE ft271 W272]) rfl ?_ ?_
          ·refine gx_kA (.bool b446) w443 ?_
           cases b446 with
           | true =>
            try dsimp only at hE462
            refine gx_kA (.int .i64 xz19_381o4_6) w443 ?_
            rcases if_in hE462 with ⟨h465, hE462⟩ | ⟨h465, hE462⟩
            ·refine gx_vA (.bool true) w443 (run_boolE (decide_eq_true h465) (by as_aux_lemma => kernel_rfl)) ?_
             refine gx_kA (.bool true) w443 ?_
             refine gx_nil ?_
             refine gx_thenN ?_
             exact ⟨true, selfA_i (by as_aux_lemma => kernel_rfl), (Option.some.inj hE462), hS444⟩
            ·refine gx_vA (.bool false) w443 (run_boolE (decide_eq_false h465) (by as_aux_lemma => kernel_rfl)) ?_
             refine gx_kA (.bool false) w443 ?_
             refine gx_nil ?_
             refine gx_thenN ?_
             exact ⟨false, selfA_i (by as_aux_lemma => kernel_rfl), (Option.some.inj hE462), hS444⟩
           | false =>
            try dsimp only at hE462
            refine gx_oA (gx_oA (gx_kA (.bool false) w443 ?_))
            refine gx_nil ?_
            refine gx_thenN ?_
            exact ⟨false, selfA_i (by as_aux_lemma => kernel_rfl), (Option.some.inj hE462), hS444⟩
          ·rintro _ w457 ⟨b460, hq464, rfl, hS458⟩
           obtain ⟨u459, rfl⟩ := selfA_u hq464
           try dsimp only at hO463
           refine gx_kA (.bool b460) w457 ?_
           cases b460 with
           | true =>
            try dsimp only at hO463
            refine gx_kA (.int .i64 x400) w457 ?_
            rcases if_in hO463 with ⟨h466, hO463⟩ | ⟨h466, hO463⟩
            ·refine gx_vA (.bool true) w457 (run_boolE (decide_eq_true h466) (by as_aux_lemma => kernel_rfl)) ?_
             refine gx_kA (.bool true) w457 (gx_kA (.bool true) w457 (gx_kA (.int .i64 x412) w457 ?_))
             rcases if_in hO463 with ⟨h467, hO463⟩ | ⟨h467, hO463⟩
             ·refine gx_vA (.bool true) w457 (run_boolE (decide_eq_true h467) (by as_aux_lemma => kernel_rfl)) ?_
              refine gx_kA (.bool true) w457 (gx_kA (.bool true) w457 ?_)
              refine gx_nil ?_
              refine gx_thenN ?_
              exact ⟨true, selfA_i (by as_aux_lemma => kernel_rfl), (Option.some.inj hO463), hS458⟩
             ·refine gx_vA (.bool false) w457 (run_boolE (decide_eq_false h467) (by as_aux_lemma => kernel_rfl)) ?_
              refine gx_kA (.bool false) w457 (gx_kA (.bool false) w457 ?_)
              refine gx_nil ?_
              refine gx_thenN ?_
              exact ⟨false, selfA_i (by as_aux_lemma => kernel_rfl), (Option.some.inj hO463), hS458⟩
            ·refine gx_vA (.bool false) w457 (run_boolE (decide_eq_false h466) (by as_aux_lemma => kernel_rfl)) ?_
             refine gx_kA (.bool false) w457 (gx_kA (.bool false) w457 (gx_oA (gx_oA (gx_kA (.bool false) w457 (gx_kA (.bool false) w457 ?_)))))
             refine gx_nil ?_
             refine gx_thenN ?_
             exact ⟨false, selfA_i (by as_aux_lemma => kernel_rfl), (Option.some.inj hO463), hS458⟩
           | false =>
            try dsimp only at hO463
            refine gx_oA (gx_oA (gx_kA (.bool false) w457 (gx_kA (.bool false) w457 (gx_oA (gx_oA (gx_kA (.bool false) w457 (gx_kA (.bool false) w457 ?_)))))))
            refine gx_nil ?_
            refine gx_thenN ?_
            exact ⟨false, selfA_i (by as_aux_lemma => kernel_rfl), (Option.some.inj hO463), hS458⟩
       ·rintro _ w416 ⟨b419, hq492, rfl, hS417⟩
        obtain ⟨u418, rfl⟩ := selfA_u hq492
        try dsimp only at hO422
        refine gx_seq (fun K468 hK469 => ?_)
        refine gx_region ?_
        obtain ⟨c474, hE475, hO476⟩ := bind_in hO422
        refine gx_part (l1 := [_, _, _, _]) (fun a w => ∃ (b473 : Bool), selfA (fun u472 => ⟨((.bool false) :: (.int .u8 1) :: (.int .u8 2) :: (.int .u8 14) :: (.bool b8) :: (.bool b127) :: dd u270 6 2 ((u185 8) :: (u223 9) :: (.bool b274) :: dd u418 11 4 ((.int .i64 xz19_381o4_6) :: (u418 16) :: (.int .i64 x400) :: (u418 18) :: (.int .i64 x412) :: (.bool b419) :: dd u7 21 60 (dd u126 81 34 (dd u185 115 7 (dd u223 122 7 (dd u270 129 31 (dd u418 160 3 ((.int .u8 14) :: (.int .u8 1) :: (.int .u8 14) :: (.int .u8 14) :: dd u418 167 5 ((.int .u8 1) :: dd u418 173 2 ((.int .i64 xz19_381o4_6) :: dd u418 176 5 ((.int .u8 1) :: dd u418 182 2 ((.int .i64 x400) :: dd u418 185 3 ((.int .u8 1) :: dd u418 189 2 ((.int .i64 x412) :: dd u418 192 31 (dd u472 223 3 ((.bool b473) :: un 9 ([])))))))))))))))))).toArray, []⟩) a ∧ b473 = c474 ∧ St [] w0 w [poolE ft271 W272]) rfl ?_ ?_
        ·refine gx_kA (.bool b8) w416 (gx_kA (.bool b8) w416 ?_)
         cases b8 with
         | true =>
          try dsimp only at hE475
          refine gx_kA (.bool b127) w416 (gx_kA (.bool b127) w416 ?_)
          refine gx_nil ?_
          refine gx_thenN ?_
          exact ⟨b127, selfA_i (by as_aux_lemma => kernel_rfl), (Option.some.inj hE475), hS417⟩
         | false =>
          try dsimp only at hE475
          refine gx_oA (gx_kA (.bool false) w416 ?_)
          refine gx_nil ?_
          refine gx_thenN ?_
          exact ⟨false, selfA_i (by as_aux_lemma => kernel_rfl), (Option.some.inj hE475), hS417⟩
        ·rintro _ w470 ⟨b473, hq477, rfl, hS471⟩
         obtain ⟨u472, rfl⟩ := selfA_u hq477
         try dsimp only at hO476
         obtain ⟨c482, hE483, hO484⟩ := bind_in hO476
         refine gx_part (l1 := [_, _, _]) (fun a w => ∃ (b481 : Bool), selfA (fun u480 => ⟨((.bool false) :: (.int .u8 1) :: (.int .u8 2) :: (.int .u8 14) :: (.bool b8) :: (.bool b127) :: dd u270 6 2 ((u185 8) :: (u223 9) :: (.bool b274) :: dd u418 11 4 ((.int .i64 xz19_381o4_6) :: (u418 16) :: (.int .i64 x400) :: (u418 18) :: (.int .i64 x412) :: (.bool b419) :: dd u7 21 60 (dd u126 81 34 (dd u185 115 7 (dd u223 122 7 (dd u270 129 31 (dd u418 160 3 ((.int .u8 14) :: (.int .u8 1) :: (.int .u8 14) :: (.int .u8 14) :: dd u418 167 5 ((.int .u8 1) :: dd u418 173 2 ((.int .i64 xz19_381o4_6) :: dd u418 176 5 ((.int .u8 1) :: dd u418 182 2 ((.int .i64 x400) :: dd u418 185 3 ((.int .u8 1) :: dd u418 189 2 ((.int .i64 x412) :: dd u418 192 31 (dd u472 223 3 ((.bool b473) :: dd u480 227 2 ((.bool b481) :: un 6 ([]))))))))))))))))))).toArray, []⟩) a ∧ b481 = c482 ∧ St [] w0 w [poolE ft271 W272]) rfl ?_ ?_
         ·refine gx_kA (.bool b473) w470 ?_
          cases b473 with
          | true =>
           try dsimp only at hE483
           refine gx_kA (.bool b274) w470 (gx_kA (.bool b274) w470 ?_)
           refine gx_nil ?_
           refine gx_thenN ?_
           exact ⟨b274, selfA_i (by as_aux_lemma => kernel_rfl), (Option.some.inj hE483), hS471⟩
          | false =>
           try dsimp only at hE483
           refine gx_oA (gx_kA (.bool false) w470 ?_)
           refine gx_nil ?_
           refine gx_thenN ?_
           exact ⟨false, selfA_i (by as_aux_lemma => kernel_rfl), (Option.some.inj hE483), hS471⟩
         ·rintro _ w478 ⟨b481, hq485, rfl, hS479⟩
          obtain ⟨u480, rfl⟩ := selfA_u hq485
          try dsimp only at hO484
          refine gx_kA (.bool b481) w478 ?_
          cases b481 with
          | true =>
           try dsimp only at hO484
           refine gx_kA (.bool b419) w478 (gx_kA (.bool b419) w478 (gx_kA (.bool b419) w478 ?_))
           cases b419 with
           | true =>
            try dsimp only at hO484
            have hP486 : St _ _ w478 ([] ++ [poolE ft271 W272]) := hS479
            obtain ⟨b488, hc487, hO484⟩ := bind_in hO484
            try dsimp only at hO484
            refine gx_cA (kAround_R b488 w478) (kAround_ok N  _ hc487 w478 (MirW.at hcd hS479.below)) ?_
            rintro _ w489 ⟨rfl, hT491⟩
            have hS490 : St _ _ w489 [poolE ft271 W272] := hS479.take _ hT491
            refine gx_kA (.bool b488) w489 (gx_kA (.bool b488) w489 ?_)
            refine gx_nil ?_
            refine gx_thenN ?_
            refine hK469 _ _ ?_
            refine gx_ret ?_
            obtain rfl := Option.some.inj hO484
            exact gx_fin (.bool b488) (by as_aux_lemma => kernel_rfl) (by as_aux_lemma => kernel_rfl) ⟨_, rfl, rfl, (hS490.pick [] rfl rfl)⟩
           | false =>
            try dsimp only at hO484
            refine gx_oA (gx_kA (.bool false) w478 (gx_kA (.bool false) w478 ?_))
            refine gx_nil ?_
            refine gx_thenN ?_
            refine hK469 _ _ ?_
            refine gx_ret ?_
            obtain rfl := Option.some.inj hO484
            exact gx_fin (.bool false) (by as_aux_lemma => kernel_rfl) (by as_aux_lemma => kernel_rfl) ⟨_, rfl, rfl, (hS479.pick [] rfl rfl)⟩
          | false =>
           try dsimp only at hO484
           refine gx_oA (gx_kA (.bool false) w478 (gx_kA (.bool false) w478 (gx_oA (gx_kA (.bool false) w478 (gx_kA (.bool false) w478 ?_)))))
           refine gx_nil ?_
           refine gx_thenN ?_
           refine hK469 _ _ ?_
           refine gx_ret ?_
           obtain rfl := Option.some.inj hO484
           exact gx_fin (.bool false) (by as_aux_lemma => kernel_rfl) (by as_aux_lemma => kernel_rfl) ⟨_, rfl, rfl, (hS479.pick [] rfl rfl)⟩
      ·intro K493
       refine gv1 3 172 (.int .u8 1) rfl hS384 ?_
       refine gd_fork3 0 1 2 { dst := some 169, op := _, type := _, pos := _, after := _, guard := _ } { dst := some 170, op := _, type := _, pos := _, after := _, guard := _ } { dst := some 171, op := _, type := _, pos := _, after := _, guard := _ } rfl rfl rfl ?_ ?_ ?_
       ·skip
        refine gfR 0 { dst := some 169, op := _, type := _, pos := _, after := _, guard := _ } rfl (st_make (T := 21) (k := .i32) (by_ := 4) rfl (by as_aux_lemma => kernel_rfl) (by as_aux_lemma => kernel_rfl) (by as_aux_lemma => kernel_rfl) (by as_aux_lemma => kernel_rfl) (by as_aux_lemma => kernel_rfl) hS384 hmz19_381o0_2) ?_
        rintro _ wz19_381o0_3 ⟨Az19_381o0_5, cz19_381o0_6, rfl, hSz19_381o0_4⟩
        have hSz19_381o0_4 : St _ _ wz19_381o0_3 [poolE ft271 W272, rowE .i32 21 (some ⟨w268.heap.size, 0, none⟩) 8 ([40, 120, 41, 40, 40, 121, 41, 41]), rowE .u8 33 A371 c372 l370, rowE .u8 33 (some ⟨w373.heap.size, 0, none⟩) 8 ([14, 1, 14, 9, 9, 14, 9, 10]), rowE .i32 21 Az19_381o0_5 cz19_381o0_6 lz19_381o0_1] := hSz19_381o0_4
        refine ⟨(hSz19_381o0_4.pick [0, 1, 2, 3] rfl rfl), ?_⟩
        refine gd_fork2 1 2 { dst := some 170, op := _, type := _, pos := _, after := _, guard := _ } { dst := some 171, op := _, type := _, pos := _, after := _, guard := _ } rfl rfl ?_ ?_
        ·skip
         refine gfR 1 { dst := some 170, op := _, type := _, pos := _, after := _, guard := _ } rfl (st_make (T := 33) (k := .u8) (by_ := 1) rfl (by as_aux_lemma => kernel_rfl) (by as_aux_lemma => kernel_rfl) (by as_aux_lemma => kernel_rfl) (by as_aux_lemma => kernel_rfl) (by as_aux_lemma => kernel_rfl) hSz19_381o0_4 hmz19_381o1_2) ?_
         rintro _ wz19_381o1_3 ⟨Az19_381o1_5, cz19_381o1_6, rfl, hSz19_381o1_4⟩
         have hSz19_381o1_4 : St _ _ wz19_381o1_3 [poolE ft271 W272, rowE .i32 21 (some ⟨w268.heap.size, 0, none⟩) 8 ([40, 120, 41, 40, 40, 121, 41, 41]), rowE .u8 33 A371 c372 l370, rowE .u8 33 (some ⟨w373.heap.size, 0, none⟩) 8 ([14, 1, 14, 9, 9, 14, 9, 10]), rowE .i32 21 Az19_381o0_5 cz19_381o0_6 lz19_381o0_1, rowE .u8 33 Az19_381o1_5 cz19_381o1_6 lz19_381o1_1] := hSz19_381o1_4
         refine ⟨(hSz19_381o1_4.pick [0, 1, 2, 3] rfl rfl), ?_⟩
         refine gdR 2 { dst := some 171, op := _, type := _, pos := _, after := _, guard := _ } rfl (st_make (T := 33) (k := .u8) (by_ := 1) rfl (by as_aux_lemma => kernel_rfl) (by as_aux_lemma => kernel_rfl) (by as_aux_lemma => kernel_rfl) (by as_aux_lemma => kernel_rfl) (by as_aux_lemma => kernel_rfl) hSz19_381o1_4 hmz19_381o2_2) ?_
         rintro _ wz19_381o2_3 ⟨Az19_381o2_5, cz19_381o2_6, rfl, hSz19_381o2_4⟩
         have hSz19_381o2_4 : St _ _ wz19_381o2_3 [poolE ft271 W272, rowE .i32 21 (some ⟨w268.heap.size, 0, none⟩) 8 ([40, 120, 41, 40, 40, 121, 41, 41]), rowE .u8 33 A371 c372 l370, rowE .u8 33 (some ⟨w373.heap.size, 0, none⟩) 8 ([14, 1, 14, 9, 9, 14, 9, 10]), rowE .i32 21 Az19_381o0_5 cz19_381o0_6 lz19_381o0_1, rowE .u8 33 Az19_381o1_5 cz19_381o1_6 lz19_381o1_1, rowE .u8 33 Az19_381o2_5 cz19_381o2_6 lz19_381o2_1] := hSz19_381o2_4
         refine ⟨(hSz19_381o2_4.pick [0, 1, 2, 3] rfl rfl), ?_⟩
         have hPz19_381o4_1 : St _ _ wz19_381o2_3 ([] ++ [poolE ft271 W272, rowE .i32 21 (some ⟨w268.heap.size, 0, none⟩) 8 ([40, 120, 41, 40, 40, 121, 41, 41]), rowE .u8 33 A371 c372 l370, rowE .u8 33 (some ⟨w373.heap.size, 0, none⟩) 8 ([14, 1, 14, 9, 9, 14, 9, 10]), rowE .i32 21 Az19_381o0_5 cz19_381o0_6 lz19_381o0_1, rowE .u8 33 Az19_381o1_5 cz19_381o1_6 lz19_381o1_1, rowE .u8 33 Az19_381o2_5 cz19_381o2_6 lz19_381o2_1]) := hSz19_381o2_4
         refine gdC 4 { dst := some 173, op := _, type := _, pos := _, after := _, guard := _ } (pPairs_R (lz19_381o4_3, xz19_381o4_6) wz19_381o2_3) rfl (by as_aux_lemma => kernel_rfl) (pPairs_ok N lz19_381o0_1 lz19_381o1_1 lz19_381o2_1 (0 : Int) (1 : Int) Az19_381o0_5 cz19_381o0_6 Az19_381o1_5 cz19_381o1_6 Az19_381o2_5 cz19_381o2_6 _ hcz19_381o4_2 wz19_381o2_3 (hPz19_381o4_1.vwB 4 rfl) (hPz19_381o4_1.vwB 5 rfl) (hPz19_381o4_1.vwB 6 rfl) (MirW.at hcd hSz19_381o2_4.below)) ?_
         rintro _ wz19_381o4_7 ⟨Az19_381o4_4, cz19_381o4_5, rfl, hTz19_381o4_9⟩
         have hSz19_381o4_8 : St _ _ wz19_381o4_7 [poolE ft271 W272, rowE .i32 21 (some ⟨w268.heap.size, 0, none⟩) 8 ([40, 120, 41, 40, 40, 121, 41, 41]), rowE .u8 33 A371 c372 l370, rowE .u8 33 (some ⟨w373.heap.size, 0, none⟩) 8 ([14, 1, 14, 9, 9, 14, 9, 10]), rowE .i32 21 Az19_381o0_5 cz19_381o0_6 lz19_381o0_1, rowE .u8 33 Az19_381o1_5 cz19_381o1_6 lz19_381o1_1, rowE .u8 33 Az19_381o2_5 cz19_381o2_6 lz19_381o2_1, rowE .u8 33 Az19_381o4_4 cz19_381o4_5 lz19_381o4_3] := hSz19_381o2_4.take _ hTz19_381o4_9
         refine ⟨(hSz19_381o4_8.pick [0, 1, 2, 3] rfl rfl), ?_⟩
         refine gv1 5 168 (.tuple #[.slice Az19_381o4_4 lz19_381o4_3.length cz19_381o4_5, .int .i64 xz19_381o4_6]) rfl (hSz19_381o4_8.pick [0, 1, 2, 3] rfl rfl) ?_
         refine gv1 6 174 (.slice Az19_381o4_4 lz19_381o4_3.length cz19_381o4_5) rfl (hSz19_381o4_8.pick [0, 1, 2, 3] rfl rfl) ?_
         refine gv1 7 175 (.int .i64 xz19_381o4_6) rfl (hSz19_381o4_8.pick [0, 1, 2, 3] rfl rfl) ?_
         refine gv1 8 14 (.slice Az19_381o4_4 lz19_381o4_3.length cz19_381o4_5) rfl (hSz19_381o4_8.pick [0, 1, 2, 3] rfl rfl) ?_
         refine gv1 9 15 (.int .i64 xz19_381o4_6) rfl (hSz19_381o4_8.pick [0, 1, 2, 3] rfl rfl) ?_
         exact gd_meet (by as_aux_lemma => kernel_rfl) (by as_aux_lemma => kernel_rfl) (K493 (Az19_381o0_5, cz19_381o0_6, Az19_381o1_5, cz19_381o1_6, Az19_381o2_5, cz19_381o2_6, Az19_381o4_4, cz19_381o4_5) _ hSz19_381o4_8)
        ·skip
         refine gfR 2 { dst := some 171, op := _, type := _, pos := _, after := _, guard := _ } rfl (st_make (T := 33) (k := .u8) (by_ := 1) rfl (by as_aux_lemma => kernel_rfl) (by as_aux_lemma => kernel_rfl) (by as_aux_lemma => kernel_rfl) (by as_aux_lemma => kernel_rfl) (by as_aux_lemma => kernel_rfl) hSz19_381o0_4 hmz19_381o2_2) ?_
         rintro _ wz19_381o2_3 ⟨Az19_381o2_5, cz19_381o2_6, rfl, hSz19_381o2_4⟩
         have hSz19_381o2_4 : St _ _ wz19_381o2_3 [poolE ft271 W272, rowE .i32 21 (some ⟨w268.heap.size, 0, none⟩) 8 ([40, 120, 41, 40, 40, 121, 41, 41]), rowE .u8 33 A371 c372 l370, rowE .u8 33 (some ⟨w373.heap.size, 0, none⟩) 8 ([14, 1, 14, 9, 9, 14, 9, 10]), rowE .i32 21 Az19_381o0_5 cz19_381o0_6 lz19_381o0_1, rowE .u8 33 Az19_381o2_5 cz19_381o2_6 lz19_381o2_1] := hSz19_381o2_4
         refine ⟨(hSz19_381o2_4.pick [0, 1, 2, 3] rfl rfl), ?_⟩
         refine gdR 1 { dst := some 170, op := _, type := _, pos := _, after := _, guard := _ } rfl (st_make (T := 33) (k := .u8) (by_ := 1) rfl (by as_aux_lemma => kernel_rfl) (by as_aux_lemma => kernel_rfl) (by as_aux_lemma => kernel_rfl) (by as_aux_lemma => kernel_rfl) (by as_aux_lemma => kernel_rfl) hSz19_381o2_4 hmz19_381o1_2) ?_
         rintro _ wz19_381o1_3 ⟨Az19_381o1_5, cz19_381o1_6, rfl, hSz19_381o1_4⟩
         have hSz19_381o1_4 : St _ _ wz19_381o1_3 [poolE ft271 W272, rowE .i32 21 (some ⟨w268.heap.size, 0, none⟩) 8 ([40, 120, 41, 40, 40, 121, 41, 41]), rowE .u8 33 A371 c372 l370, rowE .u8 33 (some ⟨w373.heap.size, 0, none⟩) 8 ([14, 1, 14, 9, 9, 14, 9, 10]), rowE .i32 21 Az19_381o0_5 cz19_381o0_6 lz19_381o0_1, rowE .u8 33 Az19_381o2_5 cz19_381o2_6 lz19_381o2_1, rowE .u8 33 Az19_381o1_5 cz19_381o1_6 lz19_381o1_1] := hSz19_381o1_4
         refine ⟨(hSz19_381o1_4.pick [0, 1, 2, 3] rfl rfl), ?_⟩
         have hPz19_381o4_1 : St _ _ wz19_381o1_3 ([] ++ [poolE ft271 W272, rowE .i32 21 (some ⟨w268.heap.size, 0, none⟩) 8 ([40, 120, 41, 40, 40, 121, 41, 41]), rowE .u8 33 A371 c372 l370, rowE .u8 33 (some ⟨w373.heap.size, 0, none⟩) 8 ([14, 1, 14, 9, 9, 14, 9, 10]), rowE .i32 21 Az19_381o0_5 cz19_381o0_6 lz19_381o0_1, rowE .u8 33 Az19_381o2_5 cz19_381o2_6 lz19_381o2_1, rowE .u8 33 Az19_381o1_5 cz19_381o1_6 lz19_381o1_1]) := hSz19_381o1_4
         refine gdC 4 { dst := some 173, op := _, type := _, pos := _, after := _, guard := _ } (pPairs_R (lz19_381o4_3, xz19_381o4_6) wz19_381o1_3) rfl (by as_aux_lemma => kernel_rfl) (pPairs_ok N lz19_381o0_1 lz19_381o1_1 lz19_381o2_1 (0 : Int) (1 : Int) Az19_381o0_5 cz19_381o0_6 Az19_381o1_5 cz19_381o1_6 Az19_381o2_5 cz19_381o2_6 _ hcz19_381o4_2 wz19_381o1_3 (hPz19_381o4_1.vwB 4 rfl) (hPz19_381o4_1.vwB 6 rfl) (hPz19_381o4_1.vwB 5 rfl) (MirW.at hcd hSz19_381o1_4.below)) ?_
         rintro _ wz19_381o4_7 ⟨Az19_381o4_4, cz19_381o4_5, rfl, hTz19_381o4_9⟩
         have hSz19_381o4_8 : St _ _ wz19_381o4_7 [poolE ft271 W272, rowE .i32 21 (some ⟨w268.heap.size, 0, none⟩) 8 ([40, 120, 41, 40, 40, 121, 41, 41]), rowE .u8 33 A371 c372 l370, rowE .u8 33 (some ⟨w373.heap.size, 0, none⟩) 8 ([14, 1, 14, 9, 9, 14, 9, 10]), rowE .i32 21 Az19_381o0_5 cz19_381o0_6 lz19_381o0_1, rowE .u8 33 Az19_381o2_5 cz19_381o2_6 lz19_381o2_1, rowE .u8 33 Az19_381o1_5 cz19_381o1_6 lz19_381o1_1, rowE .u8 33 Az19_381o4_4 cz19_381o4_5 lz19_381o4_3] := hSz19_381o1_4.take _ hTz19_381o4_9
         refine ⟨(hSz19_381o4_8.pick [0, 1, 2, 3] rfl rfl), ?_⟩
         refine gv1 5 168 (.tuple #[.slice Az19_381o4_4 lz19_381o4_3.length cz19_381o4_5, .int .i64 xz19_381o4_6]) rfl (hSz19_381o4_8.pick [0, 1, 2, 3] rfl rfl) ?_
         refine gv1 6 174 (.slice Az19_381o4_4 lz19_381o4_3.length cz19_381o4_5) rfl (hSz19_381o4_8.pick [0, 1, 2, 3] rfl rfl) ?_
         refine gv1 7 175 (.int .i64 xz19_381o4_6) rfl (hSz19_381o4_8.pick [0, 1, 2, 3] rfl rfl) ?_
         refine gv1 8 14 (.slice Az19_381o4_4 lz19_381o4_3.length cz19_381o4_5) rfl (hSz19_381o4_8.pick [0, 1, 2, 3] rfl rfl) ?_
         refine gv1 9 15 (.int .i64 xz19_381o4_6) rfl (hSz19_381o4_8.pick [0, 1, 2, 3] rfl rfl) ?_
         exact gd_meet (by as_aux_lemma => kernel_rfl) (by as_aux_lemma => kernel_rfl) (K493 (Az19_381o0_5, cz19_381o0_6, Az19_381o1_5, cz19_381o1_6, Az19_381o2_5, cz19_381o2_6, Az19_381o4_4, cz19_381o4_5) _ (hSz19_381o4_8.pick [0, 1, 2, 3, 4, 6, 5, 7] rfl rfl))
       ·skip
        refine gfR 1 { dst := some 170, op := _, type := _, pos := _, after := _, guard := _ } rfl (st_make (T := 33) (k := .u8) (by_ := 1) rfl (by as_aux_lemma => kernel_rfl) (by as_aux_lemma => kernel_rfl) (by as_aux_lemma => kernel_rfl) (by as_aux_lemma => kernel_rfl) (by as_aux_lemma => kernel_rfl) hS384 hmz19_381o1_2) ?_
        rintro _ wz19_381o1_3 ⟨Az19_381o1_5, cz19_381o1_6, rfl, hSz19_381o1_4⟩
        have hSz19_381o1_4 : St _ _ wz19_381o1_3 [poolE ft271 W272, rowE .i32 21 (some ⟨w268.heap.size, 0, none⟩) 8 ([40, 120, 41, 40, 40, 121, 41, 41]), rowE .u8 33 A371 c372 l370, rowE .u8 33 (some ⟨w373.heap.size, 0, none⟩) 8 ([14, 1, 14, 9, 9, 14, 9, 10]), rowE .u8 33 Az19_381o1_5 cz19_381o1_6 lz19_381o1_1] := hSz19_381o1_4
        refine ⟨(hSz19_381o1_4.pick [0, 1, 2, 3] rfl rfl), ?_⟩
        refine gd_fork2 0 2 { dst := some 169, op := _, type := _, pos := _, after := _, guard := _ } { dst := some 171, op := _, type := _, pos := _, after := _, guard := _ } rfl rfl ?_ ?_
        ·skip
         refine gfR 0 { dst := some 169, op := _, type := _, pos := _, after := _, guard := _ } rfl (st_make (T := 21) (k := .i32) (by_ := 4) rfl (by as_aux_lemma => kernel_rfl) (by as_aux_lemma => kernel_rfl) (by as_aux_lemma => kernel_rfl) (by as_aux_lemma => kernel_rfl) (by as_aux_lemma => kernel_rfl) hSz19_381o1_4 hmz19_381o0_2) ?_
         rintro _ wz19_381o0_3 ⟨Az19_381o0_5, cz19_381o0_6, rfl, hSz19_381o0_4⟩
         have hSz19_381o0_4 : St _ _ wz19_381o0_3 [poolE ft271 W272, rowE .i32 21 (some ⟨w268.heap.size, 0, none⟩) 8 ([40, 120, 41, 40, 40, 121, 41, 41]), rowE .u8 33 A371 c372 l370, rowE .u8 33 (some ⟨w373.heap.size, 0, none⟩) 8 ([14, 1, 14, 9, 9, 14, 9, 10]), rowE .u8 33 Az19_381o1_5 cz19_381o1_6 lz19_381o1_1, rowE .i32 21 Az19_381o0_5 cz19_381o0_6 lz19_381o0_1] := hSz19_381o0_4
         refine ⟨(hSz19_381o0_4.pick [0, 1, 2, 3] rfl rfl), ?_⟩
         refine gdR 2 { dst := some 171, op := _, type := _, pos := _, after := _, guard := _ } rfl (st_make (T := 33) (k := .u8) (by_ := 1) rfl (by as_aux_lemma => kernel_rfl) (by as_aux_lemma => kernel_rfl) (by as_aux_lemma => kernel_rfl) (by as_aux_lemma => kernel_rfl) (by as_aux_lemma => kernel_rfl) hSz19_381o0_4 hmz19_381o2_2) ?_
         rintro _ wz19_381o2_3 ⟨Az19_381o2_5, cz19_381o2_6, rfl, hSz19_381o2_4⟩
         have hSz19_381o2_4 : St _ _ wz19_381o2_3 [poolE ft271 W272, rowE .i32 21 (some ⟨w268.heap.size, 0, none⟩) 8 ([40, 120, 41, 40, 40, 121, 41, 41]), rowE .u8 33 A371 c372 l370, rowE .u8 33 (some ⟨w373.heap.size, 0, none⟩) 8 ([14, 1, 14, 9, 9, 14, 9, 10]), rowE .u8 33 Az19_381o1_5 cz19_381o1_6 lz19_381o1_1, rowE .i32 21 Az19_381o0_5 cz19_381o0_6 lz19_381o0_1, rowE .u8 33 Az19_381o2_5 cz19_381o2_6 lz19_381o2_1] := hSz19_381o2_4
         refine ⟨(hSz19_381o2_4.pick [0, 1, 2, 3] rfl rfl), ?_⟩
         have hPz19_381o4_1 : St _ _ wz19_381o2_3 ([] ++ [poolE ft271 W272, rowE .i32 21 (some ⟨w268.heap.size, 0, none⟩) 8 ([40, 120, 41, 40, 40, 121, 41, 41]), rowE .u8 33 A371 c372 l370, rowE .u8 33 (some ⟨w373.heap.size, 0, none⟩) 8 ([14, 1, 14, 9, 9, 14, 9, 10]), rowE .u8 33 Az19_381o1_5 cz19_381o1_6 lz19_381o1_1, rowE .i32 21 Az19_381o0_5 cz19_381o0_6 lz19_381o0_1, rowE .u8 33 Az19_381o2_5 cz19_381o2_6 lz19_381o2_1]) := hSz19_381o2_4
         refine gdC 4 { dst := some 173, op := _, type := _, pos := _, after := _, guard := _ } (pPairs_R (lz19_381o4_3, xz19_381o4_6) wz19_381o2_3) rfl (by as_aux_lemma => kernel_rfl) (pPairs_ok N lz19_381o0_1 lz19_381o1_1 lz19_381o2_1 (0 : Int) (1 : Int) Az19_381o0_5 cz19_381o0_6 Az19_381o1_5 cz19_381o1_6 Az19_381o2_5 cz19_381o2_6 _ hcz19_381o4_2 wz19_381o2_3 (hPz19_381o4_1.vwB 5 rfl) (hPz19_381o4_1.vwB 4 rfl) (hPz19_381o4_1.vwB 6 rfl) (MirW.at hcd hSz19_381o2_4.below)) ?_
         rintro _ wz19_381o4_7 ⟨Az19_381o4_4, cz19_381o4_5, rfl, hTz19_381o4_9⟩
         have hSz19_381o4_8 : St _ _ wz19_381o4_7 [poolE ft271 W272, rowE .i32 21 (some ⟨w268.heap.size, 0, none⟩) 8 ([40, 120, 41, 40, 40, 121, 41, 41]), rowE .u8 33 A371 c372 l370, rowE .u8 33 (some ⟨w373.heap.size, 0, none⟩) 8 ([14, 1, 14, 9, 9, 14, 9, 10]), rowE .u8 33 Az19_381o1_5 cz19_381o1_6 lz19_381o1_1, rowE .i32 21 Az19_381o0_5 cz19_381o0_6 lz19_381o0_1, rowE .u8 33 Az19_381o2_5 cz19_381o2_6 lz19_381o2_1, rowE .u8 33 Az19_381o4_4 cz19_381o4_5 lz19_381o4_3] := hSz19_381o2_4.take _ hTz19_381o4_9
         refine ⟨(hSz19_381o4_8.pick [0, 1, 2, 3] rfl rfl), ?_⟩
         refine gv1 5 168 (.tuple #[.slice Az19_381o4_4 lz19_381o4_3.length cz19_381o4_5, .int .i64 xz19_381o4_6]) rfl (hSz19_381o4_8.pick [0, 1, 2, 3] rfl rfl) ?_
         refine gv1 6 174 (.slice Az19_381o4_4 lz19_381o4_3.length cz19_381o4_5) rfl (hSz19_381o4_8.pick [0, 1, 2, 3] rfl rfl) ?_
         refine gv1 7 175 (.int .i64 xz19_381o4_6) rfl (hSz19_381o4_8.pick [0, 1, 2, 3] rfl rfl) ?_
         refine gv1 8 14 (.slice Az19_381o4_4 lz19_381o4_3.length cz19_381o4_5) rfl (hSz19_381o4_8.pick [0, 1, 2, 3] rfl rfl) ?_
         refine gv1 9 15 (.int .i64 xz19_381o4_6) rfl (hSz19_381o4_8.pick [0, 1, 2, 3] rfl rfl) ?_
         exact gd_meet (by as_aux_lemma => kernel_rfl) (by as_aux_lemma => kernel_rfl) (K493 (Az19_381o0_5, cz19_381o0_6, Az19_381o1_5, cz19_381o1_6, Az19_381o2_5, cz19_381o2_6, Az19_381o4_4, cz19_381o4_5) _ (hSz19_381o4_8.pick [0, 1, 2, 3, 5, 4, 6, 7] rfl rfl))
        ·skip
         refine gfR 2 { dst := some 171, op := _, type := _, pos := _, after := _, guard := _ } rfl (st_make (T := 33) (k := .u8) (by_ := 1) rfl (by as_aux_lemma => kernel_rfl) (by as_aux_lemma => kernel_rfl) (by as_aux_lemma => kernel_rfl) (by as_aux_lemma => kernel_rfl) (by as_aux_lemma => kernel_rfl) hSz19_381o1_4 hmz19_381o2_2) ?_
         rintro _ wz19_381o2_3 ⟨Az19_381o2_5, cz19_381o2_6, rfl, hSz19_381o2_4⟩
         have hSz19_381o2_4 : St _ _ wz19_381o2_3 [poolE ft271 W272, rowE .i32 21 (some ⟨w268.heap.size, 0, none⟩) 8 ([40, 120, 41, 40, 40, 121, 41, 41]), rowE .u8 33 A371 c372 l370, rowE .u8 33 (some ⟨w373.heap.size, 0, none⟩) 8 ([14, 1, 14, 9, 9, 14, 9, 10]), rowE .u8 33 Az19_381o1_5 cz19_381o1_6 lz19_381o1_1, rowE .u8 33 Az19_381o2_5 cz19_381o2_6 lz19_381o2_1] := hSz19_381o2_4
         refine ⟨(hSz19_381o2_4.pick [0, 1, 2, 3] rfl rfl), ?_⟩
         refine gdR 0 { dst := some 169, op := _, type := _, pos := _, after := _, guard := _ } rfl (st_make (T := 21) (k := .i32) (by_ := 4) rfl (by as_aux_lemma => kernel_rfl) (by as_aux_lemma => kernel_rfl) (by as_aux_lemma => kernel_rfl) (by as_aux_lemma => kernel_rfl) (by as_aux_lemma => kernel_rfl) hSz19_381o2_4 hmz19_381o0_2) ?_
         rintro _ wz19_381o0_3 ⟨Az19_381o0_5, cz19_381o0_6, rfl, hSz19_381o0_4⟩
         have hSz19_381o0_4 : St _ _ wz19_381o0_3 [poolE ft271 W272, rowE .i32 21 (some ⟨w268.heap.size, 0, none⟩) 8 ([40, 120, 41, 40, 40, 121, 41, 41]), rowE .u8 33 A371 c372 l370, rowE .u8 33 (some ⟨w373.heap.size, 0, none⟩) 8 ([14, 1, 14, 9, 9, 14, 9, 10]), rowE .u8 33 Az19_381o1_5 cz19_381o1_6 lz19_381o1_1, rowE .u8 33 Az19_381o2_5 cz19_381o2_6 lz19_381o2_1, rowE .i32 21 Az19_381o0_5 cz19_381o0_6 lz19_381o0_1] := hSz19_381o0_4
         refine ⟨(hSz19_381o0_4.pick [0, 1, 2, 3] rfl rfl), ?_⟩
         have hPz19_381o4_1 : St _ _ wz19_381o0_3 ([] ++ [poolE ft271 W272, rowE .i32 21 (some ⟨w268.heap.size, 0, none⟩) 8 ([40, 120, 41, 40, 40, 121, 41, 41]), rowE .u8 33 A371 c372 l370, rowE .u8 33 (some ⟨w373.heap.size, 0, none⟩) 8 ([14, 1, 14, 9, 9, 14, 9, 10]), rowE .u8 33 Az19_381o1_5 cz19_381o1_6 lz19_381o1_1, rowE .u8 33 Az19_381o2_5 cz19_381o2_6 lz19_381o2_1, rowE .i32 21 Az19_381o0_5 cz19_381o0_6 lz19_381o0_1]) := hSz19_381o0_4
         refine gdC 4 { dst := some 173, op := _, type := _, pos := _, after := _, guard := _ } (pPairs_R (lz19_381o4_3, xz19_381o4_6) wz19_381o0_3) rfl (by as_aux_lemma => kernel_rfl) (pPairs_ok N lz19_381o0_1 lz19_381o1_1 lz19_381o2_1 (0 : Int) (1 : Int) Az19_381o0_5 cz19_381o0_6 Az19_381o1_5 cz19_381o1_6 Az19_381o2_5 cz19_381o2_6 _ hcz19_381o4_2 wz19_381o0_3 (hPz19_381o4_1.vwB 6 rfl) (hPz19_381o4_1.vwB 4 rfl) (hPz19_381o4_1.vwB 5 rfl) (MirW.at hcd hSz19_381o0_4.below)) ?_
         rintro _ wz19_381o4_7 ⟨Az19_381o4_4, cz19_381o4_5, rfl, hTz19_381o4_9⟩
         have hSz19_381o4_8 : St _ _ wz19_381o4_7 [poolE ft271 W272, rowE .i32 21 (some ⟨w268.heap.size, 0, none⟩) 8 ([40, 120, 41, 40, 40, 121, 41, 41]), rowE .u8 33 A371 c372 l370, rowE .u8 33 (some ⟨w373.heap.size, 0, none⟩) 8 ([14, 1, 14, 9, 9, 14, 9, 10]), rowE .u8 33 Az19_381o1_5 cz19_381o1_6 lz19_381o1_1, rowE .u8 33 Az19_381o2_5 cz19_381o2_6 lz19_381o2_1, rowE .i32 21 Az19_381o0_5 cz19_381o0_6 lz19_381o0_1, rowE .u8 33 Az19_381o4_4 cz19_381o4_5 lz19_381o4_3] := hSz19_381o0_4.take _ hTz19_381o4_9
         refine ⟨(hSz19_381o4_8.pick [0, 1, 2, 3] rfl rfl), ?_⟩
         refine gv1 5 168 (.tuple #[.slice Az19_381o4_4 lz19_381o4_3.length cz19_381o4_5, .int .i64 xz19_381o4_6]) rfl (hSz19_381o4_8.pick [0, 1, 2, 3] rfl rfl) ?_
         refine gv1 6 174 (.slice Az19_381o4_4 lz19_381o4_3.length cz19_381o4_5) rfl (hSz19_381o4_8.pick [0, 1, 2, 3] rfl rfl) ?_
         refine gv1 7 175 (.int .i64 xz19_381o4_6) rfl (hSz19_381o4_8.pick [0, 1, 2, 3] rfl rfl) ?_
         refine gv1 8 14 (.slice Az19_381o4_4 lz19_381o4_3.length cz19_381o4_5) rfl (hSz19_381o4_8.pick [0, 1, 2, 3] rfl rfl) ?_
         refine gv1 9 15 (.int .i64 xz19_381o4_6) rfl (hSz19_381o4_8.pick [0, 1, 2, 3] rfl rfl) ?_
         exact gd_meet (by as_aux_lemma => kernel_rfl) (by as_aux_lemma => kernel_rfl) (K493 (Az19_381o0_5, cz19_381o0_6, Az19_381o1_5, cz19_381o1_6, Az19_381o2_5, cz19_381o2_6, Az19_381o4_4, cz19_381o4_5) _ (hSz19_381o4_8.pick [0, 1, 2, 3, 6, 4, 5, 7] rfl rfl))
       ·skip
        refine gfR 2 { dst := some 171, op := _, type := _, pos := _, after := _, guard := _ } rfl (st_make (T := 33) (k := .u8) (by_ := 1) rfl (by as_aux_lemma => kernel_rfl) (by as_aux_lemma => kernel_rfl) (by as_aux_lemma => kernel_rfl) (by as_aux_lemma => kernel_rfl) (by as_aux_lemma => kernel_rfl) hS384 hmz19_381o2_2) ?_
        rintro _ wz19_381o2_3 ⟨Az19_381o2_5, cz19_381o2_6, rfl, hSz19_381o2_4⟩
        have hSz19_381o2_4 : St _ _ wz19_381o2_3 [poolE ft271 W272, rowE .i32 21 (some ⟨w268.heap.size, 0, none⟩) 8 ([40, 120, 41, 40, 40, 121, 41, 41]), rowE .u8 33 A371 c372 l370, rowE .u8 33 (some ⟨w373.heap.size, 0, none⟩) 8 ([14, 1, 14, 9, 9, 14, 9, 10]), rowE .u8 33 Az19_381o2_5 cz19_381o2_6 lz19_381o2_1] := hSz19_381o2_4
        refine ⟨(hSz19_381o2_4.pick [0, 1, 2, 3] rfl rfl), ?_⟩
        refine gd_fork2 0 1 { dst := some 169, op := _, type := _, pos := _, after := _, guard := _ } { dst := some 170, op := _, type := _, pos := _, after := _, guard := _ } rfl rfl ?_ ?_
        ·skip
         refine gfR 0 { dst := some 169, op := _, type := _, pos := _, after := _, guard := _ } rfl (st_make (T := 21) (k := .i32) (by_ := 4) rfl (by as_aux_lemma => kernel_rfl) (by as_aux_lemma => kernel_rfl) (by as_aux_lemma => kernel_rfl) (by as_aux_lemma => kernel_rfl) (by as_aux_lemma => kernel_rfl) hSz19_381o2_4 hmz19_381o0_2) ?_
         rintro _ wz19_381o0_3 ⟨Az19_381o0_5, cz19_381o0_6, rfl, hSz19_381o0_4⟩
         have hSz19_381o0_4 : St _ _ wz19_381o0_3 [poolE ft271 W272, rowE .i32 21 (some ⟨w268.heap.size, 0, none⟩) 8 ([40, 120, 41, 40, 40, 121, 41, 41]), rowE .u8 33 A371 c372 l370, rowE .u8 33 (some ⟨w373.heap.size, 0, none⟩) 8 ([14, 1, 14, 9, 9, 14, 9, 10]), rowE .u8 33 Az19_381o2_5 cz19_381o2_6 lz19_381o2_1, rowE .i32 21 Az19_381o0_5 cz19_381o0_6 lz19_381o0_1] := hSz19_381o0_4
         refine ⟨(hSz19_381o0_4.pick [0, 1, 2, 3] rfl rfl), ?_⟩
         refine gdR 1 { dst := some 170, op := _, type := _, pos := _, after := _, guard := _ } rfl (st_make (T := 33) (k := .u8) (by_ := 1) rfl (by as_aux_lemma => kernel_rfl) (by as_aux_lemma => kernel_rfl) (by as_aux_lemma => kernel_rfl) (by as_aux_lemma => kernel_rfl) (by as_aux_lemma => kernel_rfl) hSz19_381o0_4 hmz19_381o1_2) ?_
         rintro _ wz19_381o1_3 ⟨Az19_381o1_5, cz19_381o1_6, rfl, hSz19_381o1_4⟩
         have hSz19_381o1_4 : St _ _ wz19_381o1_3 [poolE ft271 W272, rowE .i32 21 (some ⟨w268.heap.size, 0, none⟩) 8 ([40, 120, 41, 40, 40, 121, 41, 41]), rowE .u8 33 A371 c372 l370, rowE .u8 33 (some ⟨w373.heap.size, 0, none⟩) 8 ([14, 1, 14, 9, 9, 14, 9, 10]), rowE .u8 33 Az19_381o2_5 cz19_381o2_6 lz19_381o2_1, rowE .i32 21 Az19_381o0_5 cz19_381o0_6 lz19_381o0_1, rowE .u8 33 Az19_381o1_5 cz19_381o1_6 lz19_381o1_1] := hSz19_381o1_4
         refine ⟨(hSz19_381o1_4.pick [0, 1, 2, 3] rfl rfl), ?_⟩
         have hPz19_381o4_1 : St _ _ wz19_381o1_3 ([] ++ [poolE ft271 W272, rowE .i32 21 (some ⟨w268.heap.size, 0, none⟩) 8 ([40, 120, 41, 40, 40, 121, 41, 41]), rowE .u8 33 A371 c372 l370, rowE .u8 33 (some ⟨w373.heap.size, 0, none⟩) 8 ([14, 1, 14, 9, 9, 14, 9, 10]), rowE .u8 33 Az19_381o2_5 cz19_381o2_6 lz19_381o2_1, rowE .i32 21 Az19_381o0_5 cz19_381o0_6 lz19_381o0_1, rowE .u8 33 Az19_381o1_5 cz19_381o1_6 lz19_381o1_1]) := hSz19_381o1_4
         refine gdC 4 { dst := some 173, op := _, type := _, pos := _, after := _, guard := _ } (pPairs_R (lz19_381o4_3, xz19_381o4_6) wz19_381o1_3) rfl (by as_aux_lemma => kernel_rfl) (pPairs_ok N lz19_381o0_1 lz19_381o1_1 lz19_381o2_1 (0 : Int) (1 : Int) Az19_381o0_5 cz19_381o0_6 Az19_381o1_5 cz19_381o1_6 Az19_381o2_5 cz19_381o2_6 _ hcz19_381o4_2 wz19_381o1_3 (hPz19_381o4_1.vwB 5 rfl) (hPz19_381o4_1.vwB 6 rfl) (hPz19_381o4_1.vwB 4 rfl) (MirW.at hcd hSz19_381o1_4.below)) ?_
         rintro _ wz19_381o4_7 ⟨Az19_381o4_4, cz19_381o4_5, rfl, hTz19_381o4_9⟩
         have hSz19_381o4_8 : St _ _ wz19_381o4_7 [poolE ft271 W272, rowE .i32 21 (some ⟨w268.heap.size, 0, none⟩) 8 ([40, 120, 41, 40, 40, 121, 41, 41]), rowE .u8 33 A371 c372 l370, rowE .u8 33 (some ⟨w373.heap.size, 0, none⟩) 8 ([14, 1, 14, 9, 9, 14, 9, 10]), rowE .u8 33 Az19_381o2_5 cz19_381o2_6 lz19_381o2_1, rowE .i32 21 Az19_381o0_5 cz19_381o0_6 lz19_381o0_1, rowE .u8 33 Az19_381o1_5 cz19_381o1_6 lz19_381o1_1, rowE .u8 33 Az19_381o4_4 cz19_381o4_5 lz19_381o4_3] := hSz19_381o1_4.take _ hTz19_381o4_9
         refine ⟨(hSz19_381o4_8.pick [0, 1, 2, 3] rfl rfl), ?_⟩
         refine gv1 5 168 (.tuple #[.slice Az19_381o4_4 lz19_381o4_3.length cz19_381o4_5, .int .i64 xz19_381o4_6]) rfl (hSz19_381o4_8.pick [0, 1, 2, 3] rfl rfl) ?_
         refine gv1 6 174 (.slice Az19_381o4_4 lz19_381o4_3.length cz19_381o4_5) rfl (hSz19_381o4_8.pick [0, 1, 2, 3] rfl rfl) ?_
         refine gv1 7 175 (.int .i64 xz19_381o4_6) rfl (hSz19_381o4_8.pick [0, 1, 2, 3] rfl rfl) ?_
         refine gv1 8 14 (.slice Az19_381o4_4 lz19_381o4_3.length cz19_381o4_5) rfl (hSz19_381o4_8.pick [0, 1, 2, 3] rfl rfl) ?_
         refine gv1 9 15 (.int .i64 xz19_381o4_6) rfl (hSz19_381o4_8.pick [0, 1, 2, 3] rfl rfl) ?_
         exact gd_meet (by as_aux_lemma => kernel_rfl) (by as_aux_lemma => kernel_rfl) (K493 (Az19_381o0_5, cz19_381o0_6, Az19_381o1_5, cz19_381o1_6, Az19_381o2_5, cz19_381o2_6, Az19_381o4_4, cz19_381o4_5) _ (hSz19_381o4_8.pick [0, 1, 2, 3, 5, 6, 4, 7] rfl rfl))
        ·skip
         refine gfR 1 { dst := some 170, op := _, type := _, pos := _, after := _, guard := _ } rfl (st_make (T := 33) (k := .u8) (by_ := 1) rfl (by as_aux_lemma => kernel_rfl) (by as_aux_lemma => kernel_rfl) (by as_aux_lemma => kernel_rfl) (by as_aux_lemma => kernel_rfl) (by as_aux_lemma => kernel_rfl) hSz19_381o2_4 hmz19_381o1_2) ?_
         rintro _ wz19_381o1_3 ⟨Az19_381o1_5, cz19_381o1_6, rfl, hSz19_381o1_4⟩
         have hSz19_381o1_4 : St _ _ wz19_381o1_3 [poolE ft271 W272, rowE .i32 21 (some ⟨w268.heap.size, 0, none⟩) 8 ([40, 120, 41, 40, 40, 121, 41, 41]), rowE .u8 33 A371 c372 l370, rowE .u8 33 (some ⟨w373.heap.size, 0, none⟩) 8 ([14, 1, 14, 9, 9, 14, 9, 10]), rowE .u8 33 Az19_381o2_5 cz19_381o2_6 lz19_381o2_1, rowE .u8 33 Az19_381o1_5 cz19_381o1_6 lz19_381o1_1] := hSz19_381o1_4
         refine ⟨(hSz19_381o1_4.pick [0, 1, 2, 3] rfl rfl), ?_⟩
         refine gdR 0 { dst := some 169, op := _, type := _, pos := _, after := _, guard := _ } rfl (st_make (T := 21) (k := .i32) (by_ := 4) rfl (by as_aux_lemma => kernel_rfl) (by as_aux_lemma => kernel_rfl) (by as_aux_lemma => kernel_rfl) (by as_aux_lemma => kernel_rfl) (by as_aux_lemma => kernel_rfl) hSz19_381o1_4 hmz19_381o0_2) ?_
         rintro _ wz19_381o0_3 ⟨Az19_381o0_5, cz19_381o0_6, rfl, hSz19_381o0_4⟩
         have hSz19_381o0_4 : St _ _ wz19_381o0_3 [poolE ft271 W272, rowE .i32 21 (some ⟨w268.heap.size, 0, none⟩) 8 ([40, 120, 41, 40, 40, 121, 41, 41]), rowE .u8 33 A371 c372 l370, rowE .u8 33 (some ⟨w373.heap.size, 0, none⟩) 8 ([14, 1, 14, 9, 9, 14, 9, 10]), rowE .u8 33 Az19_381o2_5 cz19_381o2_6 lz19_381o2_1, rowE .u8 33 Az19_381o1_5 cz19_381o1_6 lz19_381o1_1, rowE .i32 21 Az19_381o0_5 cz19_381o0_6 lz19_381o0_1] := hSz19_381o0_4
         refine ⟨(hSz19_381o0_4.pick [0, 1, 2, 3] rfl rfl), ?_⟩
         have hPz19_381o4_1 : St _ _ wz19_381o0_3 ([] ++ [poolE ft271 W272, rowE .i32 21 (some ⟨w268.heap.size, 0, none⟩) 8 ([40, 120, 41, 40, 40, 121, 41, 41]), rowE .u8 33 A371 c372 l370, rowE .u8 33 (some ⟨w373.heap.size, 0, none⟩) 8 ([14, 1, 14, 9, 9, 14, 9, 10]), rowE .u8 33 Az19_381o2_5 cz19_381o2_6 lz19_381o2_1, rowE .u8 33 Az19_381o1_5 cz19_381o1_6 lz19_381o1_1, rowE .i32 21 Az19_381o0_5 cz19_381o0_6 lz19_381o0_1]) := hSz19_381o0_4
         refine gdC 4 { dst := some 173, op := _, type := _, pos := _, after := _, guard := _ } (pPairs_R (lz19_381o4_3, xz19_381o4_6) wz19_381o0_3) rfl (by as_aux_lemma => kernel_rfl) (pPairs_ok N lz19_381o0_1 lz19_381o1_1 lz19_381o2_1 (0 : Int) (1 : Int) Az19_381o0_5 cz19_381o0_6 Az19_381o1_5 cz19_381o1_6 Az19_381o2_5 cz19_381o2_6 _ hcz19_381o4_2 wz19_381o0_3 (hPz19_381o4_1.vwB 6 rfl) (hPz19_381o4_1.vwB 5 rfl) (hPz19_381o4_1.vwB 4 rfl) (MirW.at hcd hSz19_381o0_4.below)) ?_
         rintro _ wz19_381o4_7 ⟨Az19_381o4_4, cz19_381o4_5, rfl, hTz19_381o4_9⟩
         have hSz19_381o4_8 : St _ _ wz19_381o4_7 [poolE ft271 W272, rowE .i32 21 (some ⟨w268.heap.size, 0, none⟩) 8 ([40, 120, 41, 40, 40, 121, 41, 41]), rowE .u8 33 A371 c372 l370, rowE .u8 33 (some ⟨w373.heap.size, 0, none⟩) 8 ([14, 1, 14, 9, 9, 14, 9, 10]), rowE .u8 33 Az19_381o2_5 cz19_381o2_6 lz19_381o2_1, rowE .u8 33 Az19_381o1_5 cz19_381o1_6 lz19_381o1_1, rowE .i32 21 Az19_381o0_5 cz19_381o0_6 lz19_381o0_1, rowE .u8 33 Az19_381o4_4 cz19_381o4_5 lz19_381o4_3] := hSz19_381o0_4.take _ hTz19_381o4_9
         refine ⟨(hSz19_381o4_8.pick [0, 1, 2, 3] rfl rfl), ?_⟩
         refine gv1 5 168 (.tuple #[.slice Az19_381o4_4 lz19_381o4_3.length cz19_381o4_5, .int .i64 xz19_381o4_6]) rfl (hSz19_381o4_8.pick [0, 1, 2, 3] rfl rfl) ?_
         refine gv1 6 174 (.slice Az19_381o4_4 lz19_381o4_3.length cz19_381o4_5) rfl (hSz19_381o4_8.pick [0, 1, 2, 3] rfl rfl) ?_
         refine gv1 7 175 (.int .i64 xz19_381o4_6) rfl (hSz19_381o4_8.pick [0, 1, 2, 3] rfl rfl) ?_
         refine gv1 8 14 (.slice Az19_381o4_4 lz19_381o4_3.length cz19_381o4_5) rfl (hSz19_381o4_8.pick [0, 1, 2, 3] rfl rfl) ?_
         refine gv1 9 15 (.int .i64 xz19_381o4_6) rfl (hSz19_381o4_8.pick [0, 1, 2, 3] rfl rfl) ?_
         exact gd_meet (by as_aux_lemma => kernel_rfl) (by as_aux_lemma => kernel_rfl) (K493 (Az19_381o0_5, cz19_381o0_6, Az19_381o1_5, cz19_381o1_6, Az19_381o2_5, cz19_381o2_6, Az19_381o4_4, cz19_381o4_5) _ (hSz19_381o4_8.pick [0, 1, 2, 3, 6, 5, 4, 7] rfl rfl))

end Go.Proofs.YtdfgecndbfmgnaaDoor
