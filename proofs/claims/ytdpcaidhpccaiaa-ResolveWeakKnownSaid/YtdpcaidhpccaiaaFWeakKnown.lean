/-
  ResolveWeakKnown, walked.
-/
import Derived.Test.YtdpcaidhpccaiaaFWeak
import Derived.Test.YtdpcaidhpccaiaaFWeakEnds
namespace Go.Proofs.Ytdpcaidhpccaiaa
open Go Go.RowKit
set_option linter.unusedVariables false

def fWeakKnown_L3 (N : Nat) (x145 : Int) (x170 : Int) : Nat → (List Int) → Int → Option (List Int)
 | 0, _, _ => none
 | k205+1, l203, x204 => (if x204 ≤ 23 then ((apx l203 ([x145, x170, x204])).bind fun l216 => fWeakKnown_L3 N x145 x170 k205 l216 (IntKind.u8.wrap (x204 + 2))) else some (l203))
def fWeakKnown_L2 (N : Nat) (x145 : Int) : Nat → (List Int) → Int → Option (Ctl (List Int) (Bool))
 | 0, _, _ => none
 | k171+1, l169, x170 => (if x170 ≤ 23 then ((((fWeakKnown_L3 N x145 x170 N l169 1 : Option (List Int)).bind fun l192 => ((fWeak N ([x145, x170, x145]) x145).bind fun b230 => (match b230 with | true => ((fWeakEnds N ([x145, x170, 4, x170]) (2 : Int)).bind fun b238 => (match b238 with | true => some (Ctl.go l192) | false => some (Ctl.ret false))) | false => some (Ctl.ret false)))) : Option (Ctl (List Int) (Bool))).bind fun | Ctl.go l183 => fWeakKnown_L2 N x145 k171 l183 (IntKind.u8.wrap (x170 + 1)) | Ctl.ret r => some (Ctl.ret r)) else some (Ctl.go l169))
def fWeakKnown_L1 (N : Nat) : Nat → (List Int) → Int → Option (Ctl (List Int) (Bool))
 | 0, _, _ => none
 | k146+1, l144, x145 => (if x145 ≤ 23 then ((fWeakKnown_L2 N x145 N l144 1 : Option (Ctl (List Int) (Bool))).bind fun | Ctl.go l158 => fWeakKnown_L1 N k146 l158 (IntKind.u8.wrap (x145 + 1)) | Ctl.ret r => some (Ctl.ret r)) else some (Ctl.go l144))
def fWeakKnown (N : Nat) : Option (Bool) :=
 ((((pWeak N ([9, 21, 9, 23, 9]) (2 : Int)).bind fun l14 => ((((kIs N l14 ([2, 21, 14, 23, 14])).bind fun b32 => (match b32 with | true => ((pWeak N ([1, 4, 8, 4, 5, 4, 6]) (2 : Int)).bind fun l40 => ((kIs N l40 ([1, 1, 1, 1, 1, 1, 1])).bind fun b50 => some (b50))) | false => some (false))) : Option (Bool)).bind fun b25 => (match b25 with | true => ((pWeak N ([2, 4, 8, 7, 6, 6, 4, 6]) (1 : Int)).bind fun l58 => ((kIs N l58 ([2, 4, 14, 7, 4, 4, 4, 4])).bind fun b68 => some (b68))) | false => some (false)))) : Option (Bool)).bind fun b6 => ((((pWeak N ([4, 10, 8, 10, 4, 10, 6]) (1 : Int)).bind fun l83 => ((kIs N l83 ([1, 10, 1, 10, 1, 10, 1])).bind fun b93 => (match b93 with | true => ((pWeak N ([6, 10, 6, 5]) (2 : Int)).bind fun l101 => ((kIs N l101 ([14, 10, 14, 14])).bind fun b111 => (match b111 with | true => ((pWeak N ([]) (1 : Int)).bind fun l118 => (if ((l118.length : Nat) : Int) = 0 then some (true) else some (false))) | false => some (false)))) | false => some (false)))) : Option (Bool)).bind fun b75 => ((fWeakKnown_L1 N N ([]) 1 : Option (Ctl (List Int) (Bool))).bind fun | Ctl.go l132 => (((match b6 with | true => some (b75) | false => some (false)) : Option (Bool)).bind fun b256 => (((match b256 with | true => ((cutx l132 (0 : Int) 2999).bind fun l269 => ((fWeak N l269 (2 : Int)).bind fun b277 => some (b277))) | false => some (false)) : Option (Bool)).bind fun b264 => (((match b264 with | true => ((cutx l132 (3000 : Int) 6000).bind fun l289 => ((fWeak N l289 (1 : Int)).bind fun b297 => some (b297))) | false => some (false)) : Option (Bool)).bind fun b284 => (match b284 with | true => ((fWeak N ([0, 99, 255, 9]) (77 : Int)).bind fun b305 => (match b305 with | true => ((kArabic N ).bind fun b311 => some b311) | false => some false)) | false => some false)))) | Ctl.ret r => some r)))

set_option linter.unusedVariables false in
def fWeakKnown_R (r : Bool) (w0 : World) (v : Value) (w : World) : Prop := v = .bool r ∧ St [] w0 w []

set_option maxRecDepth 100000 in
set_option maxHeartbeats 4000000 in
theorem fWeakKnown_ok (N : Nat)  (r : Bool) (hF : fWeakKnown N = some r) (w0 : World)  :
  Calls Try.prog 8 #[] w0 fun e w => ∃ v, e = .returned v ∧ fWeakKnown_R r w0 v w := by
 have hS0 := St.start w0
 unfold fWeakKnown at hF
 refine calls_of Try.func8 rfl ⟨(un 92 ([])).toArray, []⟩ (by kernel_rfl) ?_
 refine gx_seq (fun K1 hK2 => ?_)
 refine gx_region ?_
 refine gx_k (.bool false) w0 ?_
 refine gx_nil ?_
 refine gx_thenN ?_
 refine hK2 _ _ ?_
 obtain ⟨c7, hE8, hO9⟩ := bind_in hF
 refine gx_cut (fun a w => ∃ (b6 : Bool), selfA (fun u5 => ⟨((.bool false) :: (.bool b6) :: un 5 (dd u5 7 16 (un 69 ([])))).toArray, []⟩) a ∧ b6 = c7 ∧ St [] w0 w []) ?_ ?_
 ·refine gx_region ?_
  refine gx_r (st_made .u8 23 [9, 21, 9, 23, 9] hS0 (by show 5 ≤ 1000000000; decide) (by kernel_rfl)) ?_
  rintro _ w10 ⟨rfl, hS11⟩
  have hS11 : St _ _ w10 [rowE .u8 23 (some ⟨w0.heap.size, 0, none⟩) 5 ([9, 21, 9, 23, 9])] := hS11
  have hP12 : St _ _ w10 ([] ++ [rowE .u8 23 (some ⟨w0.heap.size, 0, none⟩) 5 ([9, 21, 9, 23, 9])]) := hS11
  obtain ⟨l14, hc13, hE8⟩ := bind_in hE8
  try dsimp only at hE8
  refine gx_c (pWeak_R l14 w10) (pWeak_ok N ([9, 21, 9, 23, 9]) (2 : Int) (some ⟨w0.heap.size, 0, none⟩) 5 _ hc13 w10 (hP12.vwB 0 rfl)) ?_
  rintro _ w17 ⟨A15, c16, rfl, hT19⟩
  have hS18 : St _ _ w17 [rowE .u8 23 (some ⟨w0.heap.size, 0, none⟩) 5 ([9, 21, 9, 23, 9]), rowE .u8 23 A15 c16 l14] := hS11.take _ hT19
  refine gx_r (st_made .u8 23 [2, 21, 14, 23, 14] hS18 (by show 5 ≤ 1000000000; decide) (by kernel_rfl)) ?_
  rintro _ w20 ⟨rfl, hS21⟩
  have hS21 : St _ _ w20 [rowE .u8 23 (some ⟨w0.heap.size, 0, none⟩) 5 ([9, 21, 9, 23, 9]), rowE .u8 23 A15 c16 l14, rowE .u8 23 (some ⟨w17.heap.size, 0, none⟩) 5 ([2, 21, 14, 23, 14])] := hS21
  obtain ⟨c26, hE27, hO28⟩ := bind_in hE8
  refine gx_part (l1 := [_, _, _, _, _, _, _]) (fun a w => ∃ (b25 : Bool), selfA (fun u24 => ⟨((.bool false) :: un 6 (dd u24 7 9 ((.bool b25) :: un 75 ([])))).toArray, []⟩) a ∧ b25 = c26 ∧ St [] w0 w []) rfl ?_ ?_
  ·have hP30 : St _ _ w20 ([] ++ [rowE .u8 23 (some ⟨w0.heap.size, 0, none⟩) 5 ([9, 21, 9, 23, 9]), rowE .u8 23 A15 c16 l14, rowE .u8 23 (some ⟨w17.heap.size, 0, none⟩) 5 ([2, 21, 14, 23, 14])]) := hS21
   obtain ⟨b32, hc31, hE27⟩ := bind_in hE27
   try dsimp only at hE27
   refine gx_c (kIs_R b32 w20) (kIs_ok N l14 ([2, 21, 14, 23, 14]) A15 c16 (some ⟨w17.heap.size, 0, none⟩) 5 _ hc31 w20 (hP30.vwB 1 rfl) (hP30.vwB 2 rfl)) ?_
   rintro _ w33 ⟨rfl, hT35⟩
   have hS34 : St _ _ w33 [rowE .u8 23 (some ⟨w0.heap.size, 0, none⟩) 5 ([9, 21, 9, 23, 9]), rowE .u8 23 A15 c16 l14, rowE .u8 23 (some ⟨w17.heap.size, 0, none⟩) 5 ([2, 21, 14, 23, 14])] := hS21.take _ hT35
   refine gx_k (.bool b32) w33 ?_
   cases b32 with
   | true =>
    try dsimp only at hE27
    refine gx_r (st_made .u8 23 [1, 4, 8, 4, 5, 4, 6] hS34 (by show 7 ≤ 1000000000; decide) (by kernel_rfl)) ?_
    rintro _ w36 ⟨rfl, hS37⟩
    have hS37 : St _ _ w36 [rowE .u8 23 (some ⟨w0.heap.size, 0, none⟩) 5 ([9, 21, 9, 23, 9]), rowE .u8 23 A15 c16 l14, rowE .u8 23 (some ⟨w17.heap.size, 0, none⟩) 5 ([2, 21, 14, 23, 14]), rowE .u8 23 (some ⟨w33.heap.size, 0, none⟩) 7 ([1, 4, 8, 4, 5, 4, 6])] := hS37
    have hP38 : St _ _ w36 ([] ++ [rowE .u8 23 (some ⟨w0.heap.size, 0, none⟩) 5 ([9, 21, 9, 23, 9]), rowE .u8 23 A15 c16 l14, rowE .u8 23 (some ⟨w17.heap.size, 0, none⟩) 5 ([2, 21, 14, 23, 14]), rowE .u8 23 (some ⟨w33.heap.size, 0, none⟩) 7 ([1, 4, 8, 4, 5, 4, 6])]) := hS37
    obtain ⟨l40, hc39, hE27⟩ := bind_in hE27
    try dsimp only at hE27
    refine gx_c (pWeak_R l40 w36) (pWeak_ok N ([1, 4, 8, 4, 5, 4, 6]) (2 : Int) (some ⟨w33.heap.size, 0, none⟩) 7 _ hc39 w36 (hP38.vwB 3 rfl)) ?_
    rintro _ w43 ⟨A41, c42, rfl, hT45⟩
    have hS44 : St _ _ w43 [rowE .u8 23 (some ⟨w0.heap.size, 0, none⟩) 5 ([9, 21, 9, 23, 9]), rowE .u8 23 A15 c16 l14, rowE .u8 23 (some ⟨w17.heap.size, 0, none⟩) 5 ([2, 21, 14, 23, 14]), rowE .u8 23 (some ⟨w33.heap.size, 0, none⟩) 7 ([1, 4, 8, 4, 5, 4, 6]), rowE .u8 23 A41 c42 l40] := hS37.take _ hT45
    refine gx_r (st_made .u8 23 [1, 1, 1, 1, 1, 1, 1] hS44 (by show 7 ≤ 1000000000; decide) (by kernel_rfl)) ?_
    rintro _ w46 ⟨rfl, hS47⟩
    have hS47 : St _ _ w46 [rowE .u8 23 (some ⟨w0.heap.size, 0, none⟩) 5 ([9, 21, 9, 23, 9]), rowE .u8 23 A15 c16 l14, rowE .u8 23 (some ⟨w17.heap.size, 0, none⟩) 5 ([2, 21, 14, 23, 14]), rowE .u8 23 (some ⟨w33.heap.size, 0, none⟩) 7 ([1, 4, 8, 4, 5, 4, 6]), rowE .u8 23 A41 c42 l40, rowE .u8 23 (some ⟨w43.heap.size, 0, none⟩) 7 ([1, 1, 1, 1, 1, 1, 1])] := hS47
    have hP48 : St _ _ w46 ([] ++ [rowE .u8 23 (some ⟨w0.heap.size, 0, none⟩) 5 ([9, 21, 9, 23, 9]), rowE .u8 23 A15 c16 l14, rowE .u8 23 (some ⟨w17.heap.size, 0, none⟩) 5 ([2, 21, 14, 23, 14]), rowE .u8 23 (some ⟨w33.heap.size, 0, none⟩) 7 ([1, 4, 8, 4, 5, 4, 6]), rowE .u8 23 A41 c42 l40, rowE .u8 23 (some ⟨w43.heap.size, 0, none⟩) 7 ([1, 1, 1, 1, 1, 1, 1])]) := hS47
    obtain ⟨b50, hc49, hE27⟩ := bind_in hE27
    try dsimp only at hE27
    refine gx_c (kIs_R b50 w46) (kIs_ok N l40 ([1, 1, 1, 1, 1, 1, 1]) A41 c42 (some ⟨w43.heap.size, 0, none⟩) 7 _ hc49 w46 (hP48.vwB 4 rfl) (hP48.vwB 5 rfl)) ?_
    rintro _ w51 ⟨rfl, hT53⟩
    have hS52 : St _ _ w51 [rowE .u8 23 (some ⟨w0.heap.size, 0, none⟩) 5 ([9, 21, 9, 23, 9]), rowE .u8 23 A15 c16 l14, rowE .u8 23 (some ⟨w17.heap.size, 0, none⟩) 5 ([2, 21, 14, 23, 14]), rowE .u8 23 (some ⟨w33.heap.size, 0, none⟩) 7 ([1, 4, 8, 4, 5, 4, 6]), rowE .u8 23 A41 c42 l40, rowE .u8 23 (some ⟨w43.heap.size, 0, none⟩) 7 ([1, 1, 1, 1, 1, 1, 1])] := hS47.take _ hT53
    refine gx_k (.bool b50) w51 ?_
    refine gx_nil ?_
    refine gx_thenN ?_
    exact ⟨b50, selfA_i (by kernel_rfl), (Option.some.inj hE27), (hS52.pick [] rfl rfl)⟩
   | false =>
    try dsimp only at hE27
    refine gx_o (gx_o (gx_o (gx_o (gx_k (.bool false) w33 ?_))))
    refine gx_nil ?_
    refine gx_thenN ?_
    exact ⟨false, selfA_i (by kernel_rfl), (Option.some.inj hE27), (hS34.pick [] rfl rfl)⟩
  ·rintro _ w22 ⟨b25, hq29, rfl, hS23⟩
   obtain ⟨u24, rfl⟩ := selfA_u hq29
   try dsimp only at hO28
   refine gx_k (.bool b25) w22 ?_
   cases b25 with
   | true =>
    try dsimp only at hO28
    refine gx_r (st_made .u8 23 [2, 4, 8, 7, 6, 6, 4, 6] hS23 (by show 8 ≤ 1000000000; decide) (by kernel_rfl)) ?_
    rintro _ w54 ⟨rfl, hS55⟩
    have hS55 : St _ _ w54 [rowE .u8 23 (some ⟨w22.heap.size, 0, none⟩) 8 ([2, 4, 8, 7, 6, 6, 4, 6])] := hS55
    have hP56 : St _ _ w54 ([] ++ [rowE .u8 23 (some ⟨w22.heap.size, 0, none⟩) 8 ([2, 4, 8, 7, 6, 6, 4, 6])]) := hS55
    obtain ⟨l58, hc57, hO28⟩ := bind_in hO28
    try dsimp only at hO28
    refine gx_c (pWeak_R l58 w54) (pWeak_ok N ([2, 4, 8, 7, 6, 6, 4, 6]) (1 : Int) (some ⟨w22.heap.size, 0, none⟩) 8 _ hc57 w54 (hP56.vwB 0 rfl)) ?_
    rintro _ w61 ⟨A59, c60, rfl, hT63⟩
    have hS62 : St _ _ w61 [rowE .u8 23 (some ⟨w22.heap.size, 0, none⟩) 8 ([2, 4, 8, 7, 6, 6, 4, 6]), rowE .u8 23 A59 c60 l58] := hS55.take _ hT63
    refine gx_r (st_made .u8 23 [2, 4, 14, 7, 4, 4, 4, 4] hS62 (by show 8 ≤ 1000000000; decide) (by kernel_rfl)) ?_
    rintro _ w64 ⟨rfl, hS65⟩
    have hS65 : St _ _ w64 [rowE .u8 23 (some ⟨w22.heap.size, 0, none⟩) 8 ([2, 4, 8, 7, 6, 6, 4, 6]), rowE .u8 23 A59 c60 l58, rowE .u8 23 (some ⟨w61.heap.size, 0, none⟩) 8 ([2, 4, 14, 7, 4, 4, 4, 4])] := hS65
    have hP66 : St _ _ w64 ([] ++ [rowE .u8 23 (some ⟨w22.heap.size, 0, none⟩) 8 ([2, 4, 8, 7, 6, 6, 4, 6]), rowE .u8 23 A59 c60 l58, rowE .u8 23 (some ⟨w61.heap.size, 0, none⟩) 8 ([2, 4, 14, 7, 4, 4, 4, 4])]) := hS65
    obtain ⟨b68, hc67, hO28⟩ := bind_in hO28
    try dsimp only at hO28
    refine gx_c (kIs_R b68 w64) (kIs_ok N l58 ([2, 4, 14, 7, 4, 4, 4, 4]) A59 c60 (some ⟨w61.heap.size, 0, none⟩) 8 _ hc67 w64 (hP66.vwB 1 rfl) (hP66.vwB 2 rfl)) ?_
    rintro _ w69 ⟨rfl, hT71⟩
    have hS70 : St _ _ w69 [rowE .u8 23 (some ⟨w22.heap.size, 0, none⟩) 8 ([2, 4, 8, 7, 6, 6, 4, 6]), rowE .u8 23 A59 c60 l58, rowE .u8 23 (some ⟨w61.heap.size, 0, none⟩) 8 ([2, 4, 14, 7, 4, 4, 4, 4])] := hS65.take _ hT71
    refine gx_k (.bool b68) w69 (gx_k (.bool b68) w69 ?_)
    refine gx_nil ?_
    refine gx_thenN ?_
    exact ⟨b68, selfA_i (by kernel_rfl), (Option.some.inj hO28), (hS70.pick [] rfl rfl)⟩
   | false =>
    try dsimp only at hO28
    refine gx_o (gx_o (gx_o (gx_o (gx_k (.bool false) w22 (gx_k (.bool false) w22 ?_)))))
    refine gx_nil ?_
    refine gx_thenN ?_
    exact ⟨false, selfA_i (by kernel_rfl), (Option.some.inj hO28), hS23⟩
 ·rintro _ w3 ⟨b6, hq317, rfl, hS4⟩
  obtain ⟨u5, rfl⟩ := selfA_u hq317
  try dsimp only at hO9
  obtain ⟨c76, hE77, hO78⟩ := bind_in hO9
  refine gx_cut (fun a w => ∃ (b75 : Bool), selfA (fun u74 => ⟨((.bool false) :: (.bool b6) :: (.bool b75) :: un 4 (dd u5 7 16 (dd u74 23 15 (un 54 ([]))))).toArray, []⟩) a ∧ b75 = c76 ∧ St [] w0 w []) ?_ ?_
  ·refine gx_region ?_
   refine gx_r (st_made .u8 23 [4, 10, 8, 10, 4, 10, 6] hS4 (by show 7 ≤ 1000000000; decide) (by kernel_rfl)) ?_
   rintro _ w79 ⟨rfl, hS80⟩
   have hS80 : St _ _ w79 [rowE .u8 23 (some ⟨w3.heap.size, 0, none⟩) 7 ([4, 10, 8, 10, 4, 10, 6])] := hS80
   have hP81 : St _ _ w79 ([] ++ [rowE .u8 23 (some ⟨w3.heap.size, 0, none⟩) 7 ([4, 10, 8, 10, 4, 10, 6])]) := hS80
   obtain ⟨l83, hc82, hE77⟩ := bind_in hE77
   try dsimp only at hE77
   refine gx_c (pWeak_R l83 w79) (pWeak_ok N ([4, 10, 8, 10, 4, 10, 6]) (1 : Int) (some ⟨w3.heap.size, 0, none⟩) 7 _ hc82 w79 (hP81.vwB 0 rfl)) ?_
   rintro _ w86 ⟨A84, c85, rfl, hT88⟩
   have hS87 : St _ _ w86 [rowE .u8 23 (some ⟨w3.heap.size, 0, none⟩) 7 ([4, 10, 8, 10, 4, 10, 6]), rowE .u8 23 A84 c85 l83] := hS80.take _ hT88
   refine gx_r (st_made .u8 23 [1, 10, 1, 10, 1, 10, 1] hS87 (by show 7 ≤ 1000000000; decide) (by kernel_rfl)) ?_
   rintro _ w89 ⟨rfl, hS90⟩
   have hS90 : St _ _ w89 [rowE .u8 23 (some ⟨w3.heap.size, 0, none⟩) 7 ([4, 10, 8, 10, 4, 10, 6]), rowE .u8 23 A84 c85 l83, rowE .u8 23 (some ⟨w86.heap.size, 0, none⟩) 7 ([1, 10, 1, 10, 1, 10, 1])] := hS90
   have hP91 : St _ _ w89 ([] ++ [rowE .u8 23 (some ⟨w3.heap.size, 0, none⟩) 7 ([4, 10, 8, 10, 4, 10, 6]), rowE .u8 23 A84 c85 l83, rowE .u8 23 (some ⟨w86.heap.size, 0, none⟩) 7 ([1, 10, 1, 10, 1, 10, 1])]) := hS90
   obtain ⟨b93, hc92, hE77⟩ := bind_in hE77
   try dsimp only at hE77
   refine gx_c (kIs_R b93 w89) (kIs_ok N l83 ([1, 10, 1, 10, 1, 10, 1]) A84 c85 (some ⟨w86.heap.size, 0, none⟩) 7 _ hc92 w89 (hP91.vwB 1 rfl) (hP91.vwB 2 rfl)) ?_
   rintro _ w94 ⟨rfl, hT96⟩
   have hS95 : St _ _ w94 [rowE .u8 23 (some ⟨w3.heap.size, 0, none⟩) 7 ([4, 10, 8, 10, 4, 10, 6]), rowE .u8 23 A84 c85 l83, rowE .u8 23 (some ⟨w86.heap.size, 0, none⟩) 7 ([1, 10, 1, 10, 1, 10, 1])] := hS90.take _ hT96
   refine gx_k (.bool b93) w94 ?_
   cases b93 with
   | true =>
    try dsimp only at hE77
    refine gx_r (st_made .u8 23 [6, 10, 6, 5] hS95 (by show 4 ≤ 1000000000; decide) (by kernel_rfl)) ?_
    rintro _ w97 ⟨rfl, hS98⟩
    have hS98 : St _ _ w97 [rowE .u8 23 (some ⟨w3.heap.size, 0, none⟩) 7 ([4, 10, 8, 10, 4, 10, 6]), rowE .u8 23 A84 c85 l83, rowE .u8 23 (some ⟨w86.heap.size, 0, none⟩) 7 ([1, 10, 1, 10, 1, 10, 1]), rowE .u8 23 (some ⟨w94.heap.size, 0, none⟩) 4 ([6, 10, 6, 5])] := hS98
    have hP99 : St _ _ w97 ([] ++ [rowE .u8 23 (some ⟨w3.heap.size, 0, none⟩) 7 ([4, 10, 8, 10, 4, 10, 6]), rowE .u8 23 A84 c85 l83, rowE .u8 23 (some ⟨w86.heap.size, 0, none⟩) 7 ([1, 10, 1, 10, 1, 10, 1]), rowE .u8 23 (some ⟨w94.heap.size, 0, none⟩) 4 ([6, 10, 6, 5])]) := hS98
    obtain ⟨l101, hc100, hE77⟩ := bind_in hE77
    try dsimp only at hE77
    refine gx_c (pWeak_R l101 w97) (pWeak_ok N ([6, 10, 6, 5]) (2 : Int) (some ⟨w94.heap.size, 0, none⟩) 4 _ hc100 w97 (hP99.vwB 3 rfl)) ?_
    rintro _ w104 ⟨A102, c103, rfl, hT106⟩
    have hS105 : St _ _ w104 [rowE .u8 23 (some ⟨w3.heap.size, 0, none⟩) 7 ([4, 10, 8, 10, 4, 10, 6]), rowE .u8 23 A84 c85 l83, rowE .u8 23 (some ⟨w86.heap.size, 0, none⟩) 7 ([1, 10, 1, 10, 1, 10, 1]), rowE .u8 23 (some ⟨w94.heap.size, 0, none⟩) 4 ([6, 10, 6, 5]), rowE .u8 23 A102 c103 l101] := hS98.take _ hT106
    refine gx_r (st_made .u8 23 [14, 10, 14, 14] hS105 (by show 4 ≤ 1000000000; decide) (by kernel_rfl)) ?_
    rintro _ w107 ⟨rfl, hS108⟩
    have hS108 : St _ _ w107 [rowE .u8 23 (some ⟨w3.heap.size, 0, none⟩) 7 ([4, 10, 8, 10, 4, 10, 6]), rowE .u8 23 A84 c85 l83, rowE .u8 23 (some ⟨w86.heap.size, 0, none⟩) 7 ([1, 10, 1, 10, 1, 10, 1]), rowE .u8 23 (some ⟨w94.heap.size, 0, none⟩) 4 ([6, 10, 6, 5]), rowE .u8 23 A102 c103 l101, rowE .u8 23 (some ⟨w104.heap.size, 0, none⟩) 4 ([14, 10, 14, 14])] := hS108
    have hP109 : St _ _ w107 ([] ++ [rowE .u8 23 (some ⟨w3.heap.size, 0, none⟩) 7 ([4, 10, 8, 10, 4, 10, 6]), rowE .u8 23 A84 c85 l83, rowE .u8 23 (some ⟨w86.heap.size, 0, none⟩) 7 ([1, 10, 1, 10, 1, 10, 1]), rowE .u8 23 (some ⟨w94.heap.size, 0, none⟩) 4 ([6, 10, 6, 5]), rowE .u8 23 A102 c103 l101, rowE .u8 23 (some ⟨w104.heap.size, 0, none⟩) 4 ([14, 10, 14, 14])]) := hS108
    obtain ⟨b111, hc110, hE77⟩ := bind_in hE77
    try dsimp only at hE77
    refine gx_c (kIs_R b111 w107) (kIs_ok N l101 ([14, 10, 14, 14]) A102 c103 (some ⟨w104.heap.size, 0, none⟩) 4 _ hc110 w107 (hP109.vwB 4 rfl) (hP109.vwB 5 rfl)) ?_
    rintro _ w112 ⟨rfl, hT114⟩
    have hS113 : St _ _ w112 [rowE .u8 23 (some ⟨w3.heap.size, 0, none⟩) 7 ([4, 10, 8, 10, 4, 10, 6]), rowE .u8 23 A84 c85 l83, rowE .u8 23 (some ⟨w86.heap.size, 0, none⟩) 7 ([1, 10, 1, 10, 1, 10, 1]), rowE .u8 23 (some ⟨w94.heap.size, 0, none⟩) 4 ([6, 10, 6, 5]), rowE .u8 23 A102 c103 l101, rowE .u8 23 (some ⟨w104.heap.size, 0, none⟩) 4 ([14, 10, 14, 14])] := hS108.take _ hT114
    refine gx_k (.bool b111) w112 (gx_k (.bool b111) w112 ?_)
    cases b111 with
    | true =>
     try dsimp only at hE77
     have hS115 : St _ _ w112 [rowE .u8 23 (some ⟨w3.heap.size, 0, none⟩) 7 ([4, 10, 8, 10, 4, 10, 6]), rowE .u8 23 A84 c85 l83, rowE .u8 23 (some ⟨w86.heap.size, 0, none⟩) 7 ([1, 10, 1, 10, 1, 10, 1]), rowE .u8 23 (some ⟨w94.heap.size, 0, none⟩) 4 ([6, 10, 6, 5]), rowE .u8 23 A102 c103 l101, rowE .u8 23 (some ⟨w104.heap.size, 0, none⟩) 4 ([14, 10, 14, 14]), rowE .u8 23 none 0 ([])] := hS113.nilrow .u8 23
     have hP116 : St _ _ w112 ([] ++ [rowE .u8 23 (some ⟨w3.heap.size, 0, none⟩) 7 ([4, 10, 8, 10, 4, 10, 6]), rowE .u8 23 A84 c85 l83, rowE .u8 23 (some ⟨w86.heap.size, 0, none⟩) 7 ([1, 10, 1, 10, 1, 10, 1]), rowE .u8 23 (some ⟨w94.heap.size, 0, none⟩) 4 ([6, 10, 6, 5]), rowE .u8 23 A102 c103 l101, rowE .u8 23 (some ⟨w104.heap.size, 0, none⟩) 4 ([14, 10, 14, 14]), rowE .u8 23 none 0 ([])]) := hS115
     obtain ⟨l118, hc117, hE77⟩ := bind_in hE77
     try dsimp only at hE77
     refine gx_c (pWeak_R l118 w112) (pWeak_ok N ([]) (1 : Int) none 0 _ hc117 w112 (hP116.vwB 6 rfl)) ?_
     rintro _ w121 ⟨A119, c120, rfl, hT123⟩
     have hS122 : St _ _ w121 [rowE .u8 23 (some ⟨w3.heap.size, 0, none⟩) 7 ([4, 10, 8, 10, 4, 10, 6]), rowE .u8 23 A84 c85 l83, rowE .u8 23 (some ⟨w86.heap.size, 0, none⟩) 7 ([1, 10, 1, 10, 1, 10, 1]), rowE .u8 23 (some ⟨w94.heap.size, 0, none⟩) 4 ([6, 10, 6, 5]), rowE .u8 23 A102 c103 l101, rowE .u8 23 (some ⟨w104.heap.size, 0, none⟩) 4 ([14, 10, 14, 14]), rowE .u8 23 none 0 ([]), rowE .u8 23 A119 c120 l118] := hS115.take _ hT123
     refine gx_k (.int .i64 ((l118.length : Nat) : Int)) w121 ?_
     rcases if_in hE77 with ⟨h124, hE77⟩ | ⟨h124, hE77⟩
     ·refine gx_v (.bool true) w121 (run_boolE (decide_eq_true h124) (by kernel_rfl)) ?_
      refine gx_k (.bool true) w121 (gx_k (.bool true) w121 ?_)
      refine gx_nil ?_
      refine gx_thenN ?_
      exact ⟨true, selfA_i (by kernel_rfl), (Option.some.inj hE77), (hS122.pick [] rfl rfl)⟩
     ·refine gx_v (.bool false) w121 (run_boolE (decide_eq_false h124) (by kernel_rfl)) ?_
      refine gx_k (.bool false) w121 (gx_k (.bool false) w121 ?_)
      refine gx_nil ?_
      refine gx_thenN ?_
      exact ⟨false, selfA_i (by kernel_rfl), (Option.some.inj hE77), (hS122.pick [] rfl rfl)⟩
    | false =>
     try dsimp only at hE77
     refine gx_o (gx_o (gx_o (gx_k (.bool false) w112 (gx_k (.bool false) w112 ?_))))
     refine gx_nil ?_
     refine gx_thenN ?_
     exact ⟨false, selfA_i (by kernel_rfl), (Option.some.inj hE77), (hS113.pick [] rfl rfl)⟩
   | false =>
    try dsimp only at hE77
    refine gx_o (gx_o (gx_o (gx_o (gx_k (.bool false) w94 (gx_k (.bool false) w94 (gx_o (gx_o ?_)))))))
    refine gx_o (gx_k (.bool false) w94 (gx_k (.bool false) w94 ?_))
    refine gx_nil ?_
    refine gx_thenN ?_
    exact ⟨false, selfA_i (by kernel_rfl), (Option.some.inj hE77), (hS95.pick [] rfl rfl)⟩
  ·rintro _ w72 ⟨b75, hq316, rfl, hS73⟩
   obtain ⟨u74, rfl⟩ := selfA_u hq316
   try dsimp only at hO78
   refine gx_seq (fun K125 hK126 => ?_)
   refine gx_region ?_
   refine gx_k (.slice none 0 0) w72 ?_
   refine gx_nil ?_
   refine gx_thenN ?_
   refine hK126 _ _ ?_
   obtain ⟨c133, hE134, hO135⟩ := bind_in hO78
   refine gx_cut (fun a w => ∃ (l132 : List Int) (A130 : Option Addr) (c131 : Nat), selfA (fun u129 => ⟨((u129 0) :: (.bool b6) :: (.bool b75) :: (.slice A130 l132.length c131) :: dd u129 4 3 (dd u5 7 16 (dd u74 23 15 (dd u129 38 33 (un 21 ([])))))).toArray, []⟩) a ∧ Ctl.go l132 = c133 ∧ St [] w0 w [rowE .u8 23 A130 c131 l132]) ?_ ?_
   ·refine gx_seq (fun K136 hK137 => ?_)
    refine gx_region ?_
    refine gx_k (.int .u8 1) w72 ?_
    refine gx_nil ?_
    refine gx_thenN ?_
    refine hK137 _ _ ?_
    refine gx_block ?_
    have hS138 : St _ _ w72 [rowE .u8 23 none 0 ([])] := hS73.nilrow .u8 23
    refine gx_loop (fun k a w => ∃ (l144 : List Int) (x145 : Int) (A142 : Option Addr) (c143 : Nat), selfA (fun u141 => ⟨((u141 0) :: (.bool b6) :: (.bool b75) :: (.slice A142 l144.length c143) :: (.int .u8 x145) :: dd u141 5 2 (dd u5 7 16 (dd u74 23 15 (dd u141 38 33 (un 21 ([])))))).toArray, []⟩) a ∧ fWeakKnown_L1 N k l144 x145 = some c133 ∧ St [] w0 w [rowE .u8 23 A142 c143 l144]) N ?_ ?_
    ·exact ⟨([]), 1, none, 0, selfA_i (by kernel_rfl), hE134, hS138⟩
    ·rintro k146 _ w139 ⟨l144, x145, A142, c143, hq250, hL147, hS140⟩
     obtain ⟨u141, rfl⟩ := selfA_u hq250
     cases k146 with
     | zero => cases hL147
     | succ k146 =>
      first | rw [fWeakKnown_L1] at hL147 | unfold fWeakKnown_L1 at hL147
      refine gx_seq (fun K148 hK149 => ?_)
      refine gx_seq (fun K150 hK151 => ?_)
      refine gx_region ?_
      refine gx_k (.int .u8 x145) w139 ?_
      rcases if_in hL147 with ⟨h152, hL147⟩ | ⟨h152, hL147⟩
      ·refine gx_v (.bool true) w139 (run_boolE (decide_eq_true h152) (by kernel_rfl)) ?_
       refine gx_nil ?_
       refine gx_thenN ?_
       refine hK151 _ _ ?_
       refine gx_yes (by kernel_rfl) ?_
       refine gx_pass ?_
       refine gx_thenN ?_
       refine hK149 _ _ ?_
       obtain ⟨c159, hE160, hO161⟩ := bind_in hL147
       refine gx_cut (fun a w => ∃ (l158 : List Int) (A156 : Option Addr) (c157 : Nat), selfA (fun u155 => ⟨((u155 0) :: (.bool b6) :: (.bool b75) :: (.slice A156 l158.length c157) :: (.int .u8 x145) :: dd u155 5 2 (dd u5 7 16 (dd u74 23 15 ((.int .u8 x145) :: (.bool true) :: dd u141 40 2 (dd u155 42 29 (un 21 ([]))))))).toArray, []⟩) a ∧ Ctl.go l158 = c159 ∧ St [] w0 w [rowE .u8 23 A156 c157 l158]) ?_ ?_
       ·refine gx_block ?_
        refine gx_seq (fun K162 hK163 => ?_)
        refine gx_region ?_
        refine gx_k (.int .u8 1) w139 ?_
        refine gx_nil ?_
        refine gx_thenN ?_
        refine hK163 _ _ ?_
        refine gx_block ?_
        refine gx_loop (fun k a w => ∃ (l169 : List Int) (x170 : Int) (A167 : Option Addr) (c168 : Nat), selfA (fun u166 => ⟨((u166 0) :: (.bool b6) :: (.bool b75) :: (.slice A167 l169.length c168) :: (.int .u8 x145) :: (.int .u8 x170) :: (u166 6) :: dd u5 7 16 (dd u74 23 15 ((.int .u8 x145) :: (.bool true) :: dd u141 40 2 (dd u166 42 29 (un 21 ([])))))).toArray, []⟩) a ∧ fWeakKnown_L2 N x145 k l169 x170 = some c159 ∧ St [] w0 w [rowE .u8 23 A167 c168 l169]) N ?_ ?_
        ·exact ⟨l144, 1, A142, c143, selfA_i (by kernel_rfl), hE160, hS140⟩
        ·rintro k171 _ w164 ⟨l169, x170, A167, c168, hq248, hL172, hS165⟩
         obtain ⟨u166, rfl⟩ := selfA_u hq248
         cases k171 with
         | zero => cases hL172
         | succ k171 =>
          first | rw [fWeakKnown_L2] at hL172 | unfold fWeakKnown_L2 at hL172
          refine gx_seq (fun K173 hK174 => ?_)
          refine gx_seq (fun K175 hK176 => ?_)
          refine gx_region ?_
          refine gx_k (.int .u8 x170) w164 ?_
          rcases if_in hL172 with ⟨h177, hL172⟩ | ⟨h177, hL172⟩
          ·refine gx_v (.bool true) w164 (run_boolE (decide_eq_true h177) (by kernel_rfl)) ?_
           refine gx_nil ?_
           refine gx_thenN ?_
           refine hK176 _ _ ?_
           refine gx_yes (by kernel_rfl) ?_
           refine gx_pass ?_
           refine gx_thenN ?_
           refine hK174 _ _ ?_
           obtain ⟨c184, hE185, hO186⟩ := bind_in hL172
           refine gx_cut (fun a w => ∃ (l183 : List Int) (A181 : Option Addr) (c182 : Nat), selfA (fun u180 => ⟨((u180 0) :: (.bool b6) :: (.bool b75) :: (.slice A181 l183.length c182) :: (.int .u8 x145) :: (.int .u8 x170) :: (u180 6) :: dd u5 7 16 (dd u74 23 15 ((.int .u8 x145) :: (.bool true) :: dd u141 40 2 ((.int .u8 x170) :: (.bool true) :: dd u166 44 2 (dd u180 46 25 (un 21 ([]))))))).toArray, []⟩) a ∧ Ctl.go l183 = c184 ∧ St [] w0 w [rowE .u8 23 A181 c182 l183]) ?_ ?_
           ·refine gx_block ?_
            obtain ⟨c193, hE194, hO195⟩ := bind_in hE185
            refine gx_cut (fun a w => ∃ (l192 : List Int) (A190 : Option Addr) (c191 : Nat), selfA (fun u189 => ⟨((u166 0) :: (.bool b6) :: (.bool b75) :: (.slice A190 l192.length c191) :: (.int .u8 x145) :: (.int .u8 x170) :: (u189 6) :: dd u5 7 16 (dd u74 23 15 ((.int .u8 x145) :: (.bool true) :: dd u141 40 2 ((.int .u8 x170) :: (.bool true) :: dd u166 44 2 (dd u189 46 10 (dd u166 56 15 (un 21 ([])))))))).toArray, []⟩) a ∧ l192 = c193 ∧ St [] w0 w [rowE .u8 23 A190 c191 l192]) ?_ ?_
            ·refine gx_seq (fun K196 hK197 => ?_)
             refine gx_region ?_
             refine gx_k (.int .u8 1) w164 ?_
             refine gx_nil ?_
             refine gx_thenN ?_
             refine hK197 _ _ ?_
             refine gx_block ?_
             refine gx_loop (fun k a w => ∃ (l203 : List Int) (x204 : Int) (A201 : Option Addr) (c202 : Nat), selfA (fun u200 => ⟨((u166 0) :: (.bool b6) :: (.bool b75) :: (.slice A201 l203.length c202) :: (.int .u8 x145) :: (.int .u8 x170) :: (.int .u8 x204) :: dd u5 7 16 (dd u74 23 15 ((.int .u8 x145) :: (.bool true) :: dd u141 40 2 ((.int .u8 x170) :: (.bool true) :: dd u166 44 2 (dd u200 46 10 (dd u166 56 15 (un 21 ([])))))))).toArray, []⟩) a ∧ fWeakKnown_L3 N x145 x170 k l203 x204 = some c193 ∧ St [] w0 w [rowE .u8 23 A201 c202 l203]) N ?_ ?_
             ·exact ⟨l169, 1, A167, c168, selfA_i (by kernel_rfl), hE194, hS165⟩
             ·rintro k205 _ w198 ⟨l203, x204, A201, c202, hq223, hL206, hS199⟩
              obtain ⟨u200, rfl⟩ := selfA_u hq223
              cases k205 with
              | zero => cases hL206
              | succ k205 =>
               first | rw [fWeakKnown_L3] at hL206 | unfold fWeakKnown_L3 at hL206
               refine gx_seq (fun K207 hK208 => ?_)
               refine gx_seq (fun K209 hK210 => ?_)
               refine gx_region ?_
               refine gx_k (.int .u8 x204) w198 ?_
               rcases if_in hL206 with ⟨h211, hL206⟩ | ⟨h211, hL206⟩
               ·refine gx_v (.bool true) w198 (run_boolE (decide_eq_true h211) (by kernel_rfl)) ?_
                refine gx_nil ?_
                refine gx_thenN ?_
                refine hK210 _ _ ?_
                refine gx_yes (by kernel_rfl) ?_
                refine gx_pass ?_
                refine gx_thenN ?_
                refine hK208 _ _ ?_
                refine gx_seq (fun K212 hK213 => ?_)
                refine gx_block ?_
                refine gx_region ?_
                refine gx_k (.slice A201 l203.length c202) w198 (gx_k (.int .u8 x145) w198 (gx_k (.int .u8 x170) w198 (gx_k (.int .u8 x204) w198 ?_)))
                refine gx_r (st_made .u8 23 [x145, x170, x204] hS199 (by show 3 ≤ 1000000000; decide) (by kernel_rfl)) ?_
                rintro _ w214 ⟨rfl, hS215⟩
                have hS215 : St _ _ w214 [rowE .u8 23 A201 c202 l203, rowE .u8 23 (some ⟨w198.heap.size, 0, none⟩) 3 ([x145, x170, x204])] := hS215
                obtain ⟨l216, ha217, hL206⟩ := bind_in hL206
                obtain ⟨ha217, hq218⟩ := apx_in ha217
                refine gx_r (st_append rfl (by kernel_rfl) (by kernel_rfl) hS215 0 rfl (hS215.row 1 rfl).1 (hS215.row 1 rfl).2 ha217 (by kernel_rfl) (by kernel_rfl)) ?_
                rintro _ w221 ⟨A219, c220, rfl, hS222⟩
                rw [← hq218] at hS222 ⊢
                have hS222 : St _ _ w221 [rowE .u8 23 A219 c220 l216, rowE .u8 23 (some ⟨w198.heap.size, 0, none⟩) 3 ([x145, x170, x204])] := hS222
                refine gx_k (.slice A219 l216.length c220) w221 ?_
                refine gx_nil ?_
                refine gx_blkN ?_
                refine gx_thenN ?_
                refine hK213 _ _ ?_
                refine gx_region ?_
                refine gx_k (.int .u8 x204) w221 (gx_k (.int .u8 (IntKind.u8.wrap (x204 + 2))) w221 (gx_k (.int .u8 (IntKind.u8.wrap (x204 + 2))) w221 ?_))
                refine gx_nil ?_
                refine gx_thenN ?_
                exact ⟨k205, Nat.lt_succ_self k205, l216, (IntKind.u8.wrap (x204 + 2)), A219, c220, selfA_i (by kernel_rfl), hL206, (hS222.pick [0] rfl rfl)⟩
               ·refine gx_v (.bool false) w198 (run_boolE (decide_eq_false h211) (by kernel_rfl)) ?_
                refine gx_nil ?_
                refine gx_thenN ?_
                refine hK210 _ _ ?_
                refine gx_no (by kernel_rfl) ?_
                refine gx_exit ?_
                refine gx_thenE ?_
                refine gx_thenE ?_
                refine gx_blkE ?_
                refine gx_thenN ?_
                exact ⟨l203, A201, c202, selfA_i (by kernel_rfl), (Option.some.inj hL206), hS199⟩
            ·rintro _ w187 ⟨l192, A190, c191, hq246, rfl, hS188⟩
             obtain ⟨u189, rfl⟩ := selfA_u hq246
             try dsimp only at hO195
             refine gx_seq (fun K224 hK225 => ?_)
             refine gx_region ?_
             refine gx_k (.int .u8 x145) w187 (gx_k (.int .u8 x170) w187 (gx_k (.int .u8 x145) w187 ?_))
             refine gx_r (st_made .u8 23 [x145, x170, x145] hS188 (by show 3 ≤ 1000000000; decide) (by kernel_rfl)) ?_
             rintro _ w226 ⟨rfl, hS227⟩
             have hS227 : St _ _ w226 [rowE .u8 23 A190 c191 l192, rowE .u8 23 (some ⟨w187.heap.size, 0, none⟩) 3 ([x145, x170, x145])] := hS227
             refine gx_k (.int .u8 x145) w226 ?_
             have hP228 : St _ _ w226 ([] ++ [rowE .u8 23 A190 c191 l192, rowE .u8 23 (some ⟨w187.heap.size, 0, none⟩) 3 ([x145, x170, x145])]) := hS227
             obtain ⟨b230, hc229, hO195⟩ := bind_in hO195
             try dsimp only at hO195
             refine gx_c (fWeak_R b230 w226) (fWeak_ok N ([x145, x170, x145]) x145 (some ⟨w187.heap.size, 0, none⟩) 3 _ hc229 w226 (hP228.vwB 1 rfl)) ?_
             rintro _ w231 ⟨rfl, hT233⟩
             have hS232 : St _ _ w231 [rowE .u8 23 A190 c191 l192, rowE .u8 23 (some ⟨w187.heap.size, 0, none⟩) 3 ([x145, x170, x145])] := hS227.take _ hT233
             cases b230 with
             | true =>
              try dsimp only at hO195
              refine gx_k (.bool false) w231 (gx_k (.bool false) w231 (gx_k (.int .u8 x145) w231 (gx_k (.int .u8 x170) w231 (gx_k (.int .u8 x170) w231 ?_))))
              refine gx_r (st_made .u8 23 [x145, x170, 4, x170] hS232 (by show 4 ≤ 1000000000; decide) (by kernel_rfl)) ?_
              rintro _ w234 ⟨rfl, hS235⟩
              have hS235 : St _ _ w234 [rowE .u8 23 A190 c191 l192, rowE .u8 23 (some ⟨w187.heap.size, 0, none⟩) 3 ([x145, x170, x145]), rowE .u8 23 (some ⟨w231.heap.size, 0, none⟩) 4 ([x145, x170, 4, x170])] := hS235
              have hP236 : St _ _ w234 ([] ++ [rowE .u8 23 A190 c191 l192, rowE .u8 23 (some ⟨w187.heap.size, 0, none⟩) 3 ([x145, x170, x145]), rowE .u8 23 (some ⟨w231.heap.size, 0, none⟩) 4 ([x145, x170, 4, x170])]) := hS235
              obtain ⟨b238, hc237, hO195⟩ := bind_in hO195
              try dsimp only at hO195
              refine gx_c (fWeakEnds_R b238 w234) (fWeakEnds_ok N ([x145, x170, 4, x170]) (2 : Int) (some ⟨w231.heap.size, 0, none⟩) 4 _ hc237 w234 (hP236.vwB 2 rfl)) ?_
              rintro _ w239 ⟨rfl, hT241⟩
              have hS240 : St _ _ w239 [rowE .u8 23 A190 c191 l192, rowE .u8 23 (some ⟨w187.heap.size, 0, none⟩) 3 ([x145, x170, x145]), rowE .u8 23 (some ⟨w231.heap.size, 0, none⟩) 4 ([x145, x170, 4, x170])] := hS235.take _ hT241
              cases b238 with
              | true =>
               try dsimp only at hO195
               refine gx_k (.bool false) w239 (gx_k (.bool false) w239 ?_)
               refine gx_nil ?_
               refine gx_thenN ?_
               refine hK225 _ _ ?_
               refine gx_no (by kernel_rfl) ?_
               refine gx_pass ?_
               refine gx_blkN ?_
               refine gx_thenN ?_
               exact ⟨l192, A190, c191, selfA_i (by kernel_rfl), (Option.some.inj hO195), (hS240.pick [0] rfl rfl)⟩
              | false =>
               try dsimp only at hO195
               refine gx_k (.bool true) w239 (gx_k (.bool true) w239 ?_)
               refine gx_nil ?_
               refine gx_thenN ?_
               refine hK225 _ _ ?_
               refine gx_yes (by kernel_rfl) ?_
               refine gx_seq (fun K242 hK243 => ?_)
               refine gx_region ?_
               refine gx_k (.bool false) w239 ?_
               refine gx_nil ?_
               refine gx_thenN ?_
               refine hK243 _ _ ?_
               refine gx_ret ?_
               refine gx_blkR ?_
               refine gx_thenR ?_
               obtain rfl := Option.some.inj hO195
               try dsimp only at hO186
               refine gx_thenR ?_
               refine gx_blkR ?_
               refine gx_blkR ?_
               refine gx_thenR ?_
               obtain rfl := Option.some.inj hO186
               try dsimp only at hO161
               refine gx_thenR ?_
               refine gx_blkR ?_
               refine gx_thenR ?_
               obtain rfl := Option.some.inj hO161
               try dsimp only at hO135
               obtain rfl := Option.some.inj hO135
               exact gx_fin (.bool false) (by kernel_rfl) (by kernel_rfl) ⟨_, rfl, rfl, (hS240.pick [] rfl rfl)⟩
             | false =>
              try dsimp only at hO195
              refine gx_k (.bool true) w231 (gx_k (.bool true) w231 (gx_o (gx_o (gx_o (gx_o (gx_o (gx_o ?_)))))))
              refine gx_k (.bool true) w231 ?_
              refine gx_nil ?_
              refine gx_thenN ?_
              refine hK225 _ _ ?_
              refine gx_yes (by kernel_rfl) ?_
              refine gx_seq (fun K244 hK245 => ?_)
              refine gx_region ?_
              refine gx_k (.bool false) w231 ?_
              refine gx_nil ?_
              refine gx_thenN ?_
              refine hK245 _ _ ?_
              refine gx_ret ?_
              refine gx_blkR ?_
              refine gx_thenR ?_
              obtain rfl := Option.some.inj hO195
              try dsimp only at hO186
              refine gx_thenR ?_
              refine gx_blkR ?_
              refine gx_blkR ?_
              refine gx_thenR ?_
              obtain rfl := Option.some.inj hO186
              try dsimp only at hO161
              refine gx_thenR ?_
              refine gx_blkR ?_
              refine gx_thenR ?_
              obtain rfl := Option.some.inj hO161
              try dsimp only at hO135
              obtain rfl := Option.some.inj hO135
              exact gx_fin (.bool false) (by kernel_rfl) (by kernel_rfl) ⟨_, rfl, rfl, (hS232.pick [] rfl rfl)⟩
           ·rintro _ w178 ⟨l183, A181, c182, hq247, rfl, hS179⟩
            obtain ⟨u180, rfl⟩ := selfA_u hq247
            try dsimp only at hO186
            refine gx_region ?_
            refine gx_k (.int .u8 x170) w178 (gx_k (.int .u8 (IntKind.u8.wrap (x170 + 1))) w178 (gx_k (.int .u8 (IntKind.u8.wrap (x170 + 1))) w178 ?_))
            refine gx_nil ?_
            refine gx_thenN ?_
            exact ⟨k171, Nat.lt_succ_self k171, l183, (IntKind.u8.wrap (x170 + 1)), A181, c182, selfA_i (by kernel_rfl), hO186, hS179⟩
          ·refine gx_v (.bool false) w164 (run_boolE (decide_eq_false h177) (by kernel_rfl)) ?_
           refine gx_nil ?_
           refine gx_thenN ?_
           refine hK176 _ _ ?_
           refine gx_no (by kernel_rfl) ?_
           refine gx_exit ?_
           refine gx_thenE ?_
           refine gx_thenE ?_
           refine gx_blkE ?_
           refine gx_blkN ?_
           refine gx_thenN ?_
           exact ⟨l169, A167, c168, selfA_i (by kernel_rfl), (Option.some.inj hL172), hS165⟩
       ·rintro _ w153 ⟨l158, A156, c157, hq249, rfl, hS154⟩
        obtain ⟨u155, rfl⟩ := selfA_u hq249
        try dsimp only at hO161
        refine gx_region ?_
        refine gx_k (.int .u8 x145) w153 (gx_k (.int .u8 (IntKind.u8.wrap (x145 + 1))) w153 (gx_k (.int .u8 (IntKind.u8.wrap (x145 + 1))) w153 ?_))
        refine gx_nil ?_
        refine gx_thenN ?_
        exact ⟨k146, Nat.lt_succ_self k146, l158, (IntKind.u8.wrap (x145 + 1)), A156, c157, selfA_i (by kernel_rfl), hO161, hS154⟩
      ·refine gx_v (.bool false) w139 (run_boolE (decide_eq_false h152) (by kernel_rfl)) ?_
       refine gx_nil ?_
       refine gx_thenN ?_
       refine hK151 _ _ ?_
       refine gx_no (by kernel_rfl) ?_
       refine gx_exit ?_
       refine gx_thenE ?_
       refine gx_thenE ?_
       refine gx_blkE ?_
       refine gx_thenN ?_
       exact ⟨l144, A142, c143, selfA_i (by kernel_rfl), (Option.some.inj hL147), hS140⟩
   ·rintro _ w127 ⟨l132, A130, c131, hq315, rfl, hS128⟩
    obtain ⟨u129, rfl⟩ := selfA_u hq315
    try dsimp only at hO135
    refine gx_seq (fun K251 hK252 => ?_)
    refine gx_region ?_
    obtain ⟨c257, hE258, hO259⟩ := bind_in hO135
    refine gx_part (l1 := [_, _, _, _]) (fun a w => ∃ (b256 : Bool), selfA (fun u255 => ⟨((u129 0) :: (.bool b6) :: (.bool b75) :: (.slice A130 l132.length c131) :: dd u129 4 3 (dd u5 7 16 (dd u74 23 15 (dd u129 38 33 (dd u255 71 3 ((.bool b256) :: un 17 ([]))))))).toArray, []⟩) a ∧ b256 = c257 ∧ St [] w0 w [rowE .u8 23 A130 c131 l132]) rfl ?_ ?_
    ·refine gx_k (.bool b6) w127 (gx_k (.bool b6) w127 ?_)
     cases b6 with
     | true =>
      try dsimp only at hE258
      refine gx_k (.bool b75) w127 (gx_k (.bool b75) w127 ?_)
      refine gx_nil ?_
      refine gx_thenN ?_
      exact ⟨b75, selfA_i (by kernel_rfl), (Option.some.inj hE258), hS128⟩
     | false =>
      try dsimp only at hE258
      refine gx_o (gx_k (.bool false) w127 ?_)
      refine gx_nil ?_
      refine gx_thenN ?_
      exact ⟨false, selfA_i (by kernel_rfl), (Option.some.inj hE258), hS128⟩
    ·rintro _ w253 ⟨b256, hq260, rfl, hS254⟩
     obtain ⟨u255, rfl⟩ := selfA_u hq260
     try dsimp only at hO259
     obtain ⟨c265, hE266, hO267⟩ := bind_in hO259
     refine gx_part (l1 := [_, _, _, _, _]) (fun a w => ∃ (b264 : Bool), selfA (fun u263 => ⟨((u129 0) :: (.bool b6) :: (.bool b75) :: (.slice A130 l132.length c131) :: dd u129 4 3 (dd u5 7 16 (dd u74 23 15 (dd u129 38 33 (dd u255 71 3 ((.bool b256) :: dd u263 75 4 ((.bool b264) :: un 12 ([])))))))).toArray, []⟩) a ∧ b264 = c265 ∧ St [] w0 w [rowE .u8 23 A130 c131 l132]) rfl ?_ ?_
     ·refine gx_k (.bool b256) w253 ?_
      cases b256 with
      | true =>
       try dsimp only at hE266
       refine gx_k (.slice A130 l132.length c131) w253 ?_
       obtain ⟨l269, hx270, hE266⟩ := bind_in hE266
       obtain ⟨A271, c272, hA273⟩ := cut_is A130 (Int.toNat (0 : Int)) (Int.toNat (2999 : Int)) c131
       rw [← cutx_len hx270] at hA273
       refine gx_v (.slice A271 l269.length c272) w253 (run_cut (TE := 23) (n := l132.length) (l := Int.toNat (0 : Int)) (h := Int.toNat (2999 : Int)) none (some (.int .i64 2999)) rfl (by kernel_rfl) (by kernel_rfl) (by kernel_rfl) (by kernel_rfl) (fun _ => by kernel_rfl) (bnd_h (cutx_in hx270).2.1 (Int.le_trans (cutx_in hx270).2.2.1 (by exact_mod_cast num_room (hS254.row 0 rfl).1))) hA273) ?_
       have hP275 : St _ _ w253 ([] ++ [rowE .u8 23 A130 c131 l132]) := hS254
       obtain ⟨b277, hc276, hE266⟩ := bind_in hE266
       try dsimp only at hE266
       refine gx_c (fWeak_R b277 w253) (fWeak_ok N l269 (2 : Int) A271 c272 _ hc276 w253 (Vw.of (num_cut (hS254.row 0 rfl).1 hx270 hA273) (cut_nn (hS254.row 0 rfl).2 hA273))) ?_
       rintro _ w278 ⟨rfl, hT280⟩
       have hS279 : St _ _ w278 [rowE .u8 23 A130 c131 l132] := hS254.take _ hT280
       refine gx_k (.bool b277) w278 ?_
       refine gx_nil ?_
       refine gx_thenN ?_
       exact ⟨b277, selfA_i (by kernel_rfl), (Option.some.inj hE266), hS279⟩
      | false =>
       try dsimp only at hE266
       refine gx_o (gx_o (gx_o (gx_k (.bool false) w253 ?_)))
       refine gx_nil ?_
       refine gx_thenN ?_
       exact ⟨false, selfA_i (by kernel_rfl), (Option.some.inj hE266), hS254⟩
     ·rintro _ w261 ⟨b264, hq268, rfl, hS262⟩
      obtain ⟨u263, rfl⟩ := selfA_u hq268
      try dsimp only at hO267
      obtain ⟨c285, hE286, hO287⟩ := bind_in hO267
      refine gx_part (l1 := [_, _, _, _, _]) (fun a w => ∃ (b284 : Bool), selfA (fun u283 => ⟨((u129 0) :: (.bool b6) :: (.bool b75) :: (u283 3) :: dd u129 4 3 (dd u5 7 16 (dd u74 23 15 (dd u129 38 33 (dd u255 71 3 ((.bool b256) :: dd u263 75 4 ((.bool b264) :: dd u283 80 4 ((.bool b284) :: un 7 ([]))))))))).toArray, []⟩) a ∧ b284 = c285 ∧ St [] w0 w []) rfl ?_ ?_
      ·refine gx_k (.bool b264) w261 ?_
       cases b264 with
       | true =>
        try dsimp only at hE286
        refine gx_k (.slice A130 l132.length c131) w261 ?_
        obtain ⟨l289, hx290, hE286⟩ := bind_in hE286
        obtain ⟨A291, c292, hA293⟩ := cut_is A130 (Int.toNat (3000 : Int)) (Int.toNat (6000 : Int)) c131
        rw [← cutx_len hx290] at hA293
        refine gx_v (.slice A291 l289.length c292) w261 (run_cut (TE := 23) (n := l132.length) (l := Int.toNat (3000 : Int)) (h := Int.toNat (6000 : Int)) (some (.int .i64 3000)) (some (.int .i64 6000)) rfl (by kernel_rfl) (by kernel_rfl) (by kernel_rfl) (by kernel_rfl) (fun _ => by kernel_rfl) (bnd_lh (cutx_in hx290).1 (cutx_in hx290).2.1 (Int.le_trans (cutx_in hx290).2.2.1 (by exact_mod_cast num_room (hS262.row 0 rfl).1))) hA293) ?_
        have hP295 : St _ _ w261 ([] ++ [rowE .u8 23 A130 c131 l132]) := hS262
        obtain ⟨b297, hc296, hE286⟩ := bind_in hE286
        try dsimp only at hE286
        refine gx_c (fWeak_R b297 w261) (fWeak_ok N l289 (1 : Int) A291 c292 _ hc296 w261 (Vw.of (num_cut (hS262.row 0 rfl).1 hx290 hA293) (cut_nn (hS262.row 0 rfl).2 hA293))) ?_
        rintro _ w298 ⟨rfl, hT300⟩
        have hS299 : St _ _ w298 [rowE .u8 23 A130 c131 l132] := hS262.take _ hT300
        refine gx_k (.bool b297) w298 ?_
        refine gx_nil ?_
        refine gx_thenN ?_
        exact ⟨b297, selfA_i (by kernel_rfl), (Option.some.inj hE286), (hS299.pick [] rfl rfl)⟩
       | false =>
        try dsimp only at hE286
        refine gx_o (gx_o (gx_o (gx_k (.bool false) w261 ?_)))
        refine gx_nil ?_
        refine gx_thenN ?_
        exact ⟨false, selfA_i (by kernel_rfl), (Option.some.inj hE286), (hS262.pick [] rfl rfl)⟩
      ·rintro _ w281 ⟨b284, hq288, rfl, hS282⟩
       obtain ⟨u283, rfl⟩ := selfA_u hq288
       try dsimp only at hO287
       refine gx_k (.bool b284) w281 ?_
       cases b284 with
       | true =>
        try dsimp only at hO287
        refine gx_r (st_made .u8 23 [0, 99, 255, 9] hS282 (by show 4 ≤ 1000000000; decide) (by kernel_rfl)) ?_
        rintro _ w301 ⟨rfl, hS302⟩
        have hS302 : St _ _ w301 [rowE .u8 23 (some ⟨w281.heap.size, 0, none⟩) 4 ([0, 99, 255, 9])] := hS302
        have hP303 : St _ _ w301 ([] ++ [rowE .u8 23 (some ⟨w281.heap.size, 0, none⟩) 4 ([0, 99, 255, 9])]) := hS302
        obtain ⟨b305, hc304, hO287⟩ := bind_in hO287
        try dsimp only at hO287
        refine gx_c (fWeak_R b305 w301) (fWeak_ok N ([0, 99, 255, 9]) (77 : Int) (some ⟨w281.heap.size, 0, none⟩) 4 _ hc304 w301 (hP303.vwB 0 rfl)) ?_
        rintro _ w306 ⟨rfl, hT308⟩
        have hS307 : St _ _ w306 [rowE .u8 23 (some ⟨w281.heap.size, 0, none⟩) 4 ([0, 99, 255, 9])] := hS302.take _ hT308
        refine gx_k (.bool b305) w306 (gx_k (.bool b305) w306 ?_)
        cases b305 with
        | true =>
         try dsimp only at hO287
         have hP309 : St _ _ w306 ([] ++ [rowE .u8 23 (some ⟨w281.heap.size, 0, none⟩) 4 ([0, 99, 255, 9])]) := hS307
         obtain ⟨b311, hc310, hO287⟩ := bind_in hO287
         try dsimp only at hO287
         refine gx_c (kArabic_R b311 w306) (kArabic_ok N  _ hc310 w306 ) ?_
         rintro _ w312 ⟨rfl, hT314⟩
         have hS313 : St _ _ w312 [rowE .u8 23 (some ⟨w281.heap.size, 0, none⟩) 4 ([0, 99, 255, 9])] := hS307.take _ hT314
         refine gx_k (.bool b311) w312 (gx_k (.bool b311) w312 ?_)
         refine gx_nil ?_
         refine gx_thenN ?_
         refine hK252 _ _ ?_
         refine gx_ret ?_
         obtain rfl := Option.some.inj hO287
         exact gx_fin (.bool b311) (by kernel_rfl) (by kernel_rfl) ⟨_, rfl, rfl, (hS313.pick [] rfl rfl)⟩
        | false =>
         try dsimp only at hO287
         refine gx_o (gx_k (.bool false) w306 (gx_k (.bool false) w306 ?_))
         refine gx_nil ?_
         refine gx_thenN ?_
         refine hK252 _ _ ?_
         refine gx_ret ?_
         obtain rfl := Option.some.inj hO287
         exact gx_fin (.bool false) (by kernel_rfl) (by kernel_rfl) ⟨_, rfl, rfl, (hS307.pick [] rfl rfl)⟩
       | false =>
        try dsimp only at hO287
        refine gx_o (gx_o (gx_k (.bool false) w281 (gx_k (.bool false) w281 (gx_o (gx_k (.bool false) w281 (gx_k (.bool false) w281 ?_))))))
        refine gx_nil ?_
        refine gx_thenN ?_
        refine hK252 _ _ ?_
        refine gx_ret ?_
        obtain rfl := Option.some.inj hO287
        exact gx_fin (.bool false) (by kernel_rfl) (by kernel_rfl) ⟨_, rfl, rfl, hS282⟩

end Go.Proofs.Ytdpcaidhpccaiaa
