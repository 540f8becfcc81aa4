/-
  Joined.
-/
import Derived.Test.YtdbimchiecdkoaaGreatPJ
namespace Go.Proofs.YtdbimchiecdkoaaGreat
open Go Go.RowKit
set_option maxRecDepth 100000
set_option maxHeartbeats 4000000
set_option linter.unusedVariables false
def qSignSyllable (N : Nat) (zb : List Int) (zg : List Int) (zl : Int) (zn : Int) (p0_4 : Int) (p0_5 : Int) (p0_6 : Int) (p0_7 : Int) (p0_8 : Int) (p0_9 : Bool) (p0_10 : Bool) (p0_11 : Bool) : Option (Int × Bool) :=
 ((((pSyl N zb zg zl zn p0_4 p0_5 p0_6 p0_7 p0_8 p0_9 p0_10 p0_11 zn).bind fun b18 => (match b18 with | true => ((pIs N zb zg zl zn p0_4 p0_5 p0_6 p0_7 p0_8 p0_9 p0_10 p0_11 p0_4 ([25])).bind fun b26 => some (b26)) | false => some (false))) : Option (Bool)).bind fun b10 => (match b10 with | true => some (0, true) | false => ((pIs N zb zg zl zn p0_4 p0_5 p0_6 p0_7 p0_8 p0_9 p0_10 p0_11 zn ([26])).bind fun b34 => (match b34 with | true => ((pSyl N zb zg zl zn p0_4 p0_5 p0_6 p0_7 p0_8 p0_9 p0_10 p0_11 p0_4).bind fun b40 => some (0, b40)) | false => some (0, false)))))
def qSignSyllable_R (zb : List Int) (zg : List Int) (zl : Int) (zn : Int) (p0_4 : Int) (p0_5 : Int) (p0_6 : Int) (p0_7 : Int) (p0_8 : Int) (p0_9 : Bool) (p0_10 : Bool) (p0_11 : Bool) (g0 : Nat) (zA : Option Addr) (zc : Nat) (A0_1 : Option Addr) (c0_1 : Nat) (r : Int × Bool) (w0 : World) (v : Value) (w : World) : Prop := v = .tuple #[.int .u8 r.1, .bool r.2] ∧ St (foots [plE g0 zA zc A0_1 c0_1 zb zg zl zn p0_4 p0_5 p0_6 p0_7 p0_8 p0_9 p0_10 p0_11]) w0 w [plE g0 zA zc A0_1 c0_1 zb zg zl zn p0_4 p0_5 p0_6 p0_7 p0_8 p0_9 p0_10 p0_11]
theorem qSignSyllable_ok (N : Nat) (zb : List Int) (zg : List Int) (zl : Int) (zn : Int) (p0_4 : Int) (p0_5 : Int) (p0_6 : Int) (p0_7 : Int) (p0_8 : Int) (p0_9 : Bool) (p0_10 : Bool) (p0_11 : Bool) (g0 : Nat) (zA : Option Addr) (zc : Nat) (A0_1 : Option Addr) (c0_1 : Nat) (r : Int × Bool) (hF : qSignSyllable N zb zg zl zn p0_4 p0_5 p0_6 p0_7 p0_8 p0_9 p0_10 p0_11 = some r) (w0 : World) (hv0_0 : Vw (foots [plE g0 zA zc A0_1 c0_1 zb zg zl zn p0_4 p0_5 p0_6 p0_7 p0_8 p0_9 p0_10 p0_11]) .i32 w0 zA zc zb) (hv0_1 : Vw (foots [plE g0 zA zc A0_1 c0_1 zb zg zl zn p0_4 p0_5 p0_6 p0_7 p0_8 p0_9 p0_10 p0_11]) .u8 w0 A0_1 c0_1 zg) (hl : St (foots [plE g0 zA zc A0_1 c0_1 zb zg zl zn p0_4 p0_5 p0_6 p0_7 p0_8 p0_9 p0_10 p0_11]) w0 w0 [plE g0 zA zc A0_1 c0_1 zb zg zl zn p0_4 p0_5 p0_6 p0_7 p0_8 p0_9 p0_10 p0_11]) :
  Calls Tryz.prog 58 #[.pointer (some ⟨g0, 0, none⟩)] w0 fun e w => ∃ v, e = .returned v ∧ qSignSyllable_R zb zg zl zn p0_4 p0_5 p0_6 p0_7 p0_8 p0_9 p0_10 p0_11 g0 zA zc A0_1 c0_1 r w0 v w := by
 have hS0 := hl
 unfold qSignSyllable at hF
 refine calls_of Tryz.func58 rfl ⟨((vP g0) :: un 43 ([])).toArray, []⟩ (by kernel_rfl) (gx_seq (fun K1 hK2 => gx_region (gx_k (.int .u8 0) w0 (gx_k (.bool false) w0 (gx_nil (gx_thenN (hK2 _ _ (gx_seq (fun K3 hK4 => ?_)))))))))
 refine gdst (fun w => St (foots [plE g0 zA zc A0_1 c0_1 zb zg zl zn p0_4 p0_5 p0_6 p0_7 p0_8 p0_9 p0_10 p0_11]) w0 w [plE g0 zA zc A0_1 c0_1 zb zg zl zn p0_4 p0_5 p0_6 p0_7 p0_8 p0_9 p0_10 p0_11]) 42 ?_
 have hS6 := hS0.drew
 generalize w0.drew = w5 at hS6 ⊢
 refine gv1 0 4 (vP g0) rfl hS6 (gv1 1 5 (vP g0) rfl hS6 (gv1 2 6 (vP g0) rfl hS6 (gv1 3 7 (vP g0) rfl hS6 (gv1 4 8 (vP g0) rfl hS6 (gv1 5 9 (vQ g0 3) rfl hS6 (gu1 6 10 (i6 zn) rfl hS6 (fun w hSw => rl1 (hSw.box 0 rfl 3 rfl)) ?_))))))
 obtain ⟨c11, hE12, hO13⟩ := bind_in hF
 refine gd_mid (fun a w => ∃ (b10 : Bool), selfA (fun u9 => ⟨((vP g0) :: undef :: (.int .u8 0) :: (.bool false) :: (vP g0) :: (vP g0) :: (vP g0) :: (vP g0) :: (vP g0) :: (vQ g0 3) :: (i6 zn) :: dd u9 11 11 ((.bool b10) :: un 21 ([]))).toArray, []⟩) a ∧ b10 = c11 ∧ St (foots [plE g0 zA zc A0_1 c0_1 zb zg zl zn p0_4 p0_5 p0_6 p0_7 p0_8 p0_9 p0_10 p0_11]) w0 w [plE g0 zA zc A0_1 c0_1 zb zg zl zn p0_4 p0_5 p0_6 p0_7 p0_8 p0_9 p0_10 p0_11]) 23 #[true, true, true, true, true, true, true, true, true, true, true, true, true, true, true, true, true, true, true, false, false, false, false, false, false, false, false, false, false, false, false, false, false, false, false, false, false, false, false, false, false, false] ?_ ?_
 rintro _ w7 ⟨b10, hq14, rfl, hS8⟩
 obtain ⟨u9, rfl⟩ := selfA_u hq14
 try dsimp only at hO13
 refine gv1 19 23 (.bool b10) rfl hS8 ?_
 rcases b10 with _ | _
 try dsimp only at hO13
 refine gv1 20 24 (vP g0) rfl hS8 (gv1 21 25 (vP g0) rfl hS8 (gv1 22 26 (vP g0) rfl hS8 (gv1 23 27 (vP g0) rfl hS8 (gv1 24 28 (vP g0) rfl hS8 (gv1 25 29 (vQ g0 3) rfl hS8 (gu1 26 30 (i6 zn) rfl hS8 (fun w hSw => rl1 (hSw.box 0 rfl 3 rfl)) (gdR 27 ⟨some 31, _, _, _, _, _⟩ rfl (st_made .u8 5 [26] hS8 (by show 1 ≤ 1000000000; decide) (by kernel_rfl)) ?_)))))))
 rintro _ w30 ⟨rfl, hS31⟩
 have hS31 : St _ _ w30 [plE g0 zA zc A0_1 c0_1 zb zg zl zn p0_4 p0_5 p0_6 p0_7 p0_8 p0_9 p0_10 p0_11, rowE .u8 5 (some ⟨w7.heap.size, 0, none⟩) 1 ([26])] := hS31
 refine ⟨(hS31.pick [0] rfl rfl), ?_⟩
 have hP32 : St _ _ w30 ([plE g0 zA zc A0_1 c0_1 zb zg zl zn p0_4 p0_5 p0_6 p0_7 p0_8 p0_9 p0_10 p0_11] ++ [rowE .u8 5 (some ⟨w7.heap.size, 0, none⟩) 1 ([26])]) := hS31
 obtain ⟨b34, hc33, hO13⟩ := bind_in hO13
 try dsimp only at hO13
 refine gdC 28 ⟨some 32, _, _, _, _, _⟩ _ rfl (by kernel_rfl) (pIs_ok N zb zg zl zn p0_4 p0_5 p0_6 p0_7 p0_8 p0_9 p0_10 p0_11 zn ([26]) g0 zA zc A0_1 c0_1 (some ⟨w7.heap.size, 0, none⟩) 1 _ hc33 w30 (hP32.vwA hv0_0) (hP32.vwA hv0_1) (hP32.vwB 0 rfl) hP32.part) ?_
 rintro _ w35 ⟨rfl, hT37⟩
 have hS36 : St _ _ w35 [rowE .u8 5 (some ⟨w7.heap.size, 0, none⟩) 1 ([26]), plE g0 zA zc A0_1 c0_1 zb zg zl zn p0_4 p0_5 p0_6 p0_7 p0_8 p0_9 p0_10 p0_11] := hP32.lendN _ hT37
 refine ⟨(hS36.pick [1] rfl rfl), gv1 29 33 (.bool b34) rfl (hS36.pick [1] rfl rfl) ?_⟩
 rcases b34 with _ | _
 try dsimp only at hO13
 refine gz1 30 34 rfl (hS36.pick [1] rfl rfl) (gz1 31 35 rfl (hS36.pick [1] rfl rfl) (gz1 32 36 rfl (hS36.pick [1] rfl rfl) (gz1 33 37 rfl (hS36.pick [1] rfl rfl) (gz1 34 38 rfl (hS36.pick [1] rfl rfl) (gz1 35 39 rfl (hS36.pick [1] rfl rfl) (gz1 36 40 rfl (hS36.pick [1] rfl rfl) (gz1 37 41 rfl (hS36.pick [1] rfl rfl) ?_)))))))
 refine gv1 38 42 (.bool false) rfl (hS36.pick [1] rfl rfl) (gv1 39 43 (.bool false) rfl (hS36.pick [1] rfl rfl) (gv1 40 2 (.int .u8 0) rfl (hS36.pick [1] rfl rfl) (gv1 41 3 (.bool false) rfl (hS36.pick [1] rfl rfl) (gd_done (by kernel_rfl) (gx_thenN (hK4 _ _ (gx_ret ?_)))))))
 obtain rfl := sj hO13
 exact gxF (.tuple #[.int .u8 0, .bool false]) ⟨_, rfl, rfl, (hS36.pick [1] rfl rfl)⟩
 try dsimp only at hO13
 refine gv1 30 34 (vP g0) rfl (hS36.pick [1] rfl rfl) (gv1 31 35 (vP g0) rfl (hS36.pick [1] rfl rfl) (gv1 32 36 (vP g0) rfl (hS36.pick [1] rfl rfl) (gv1 33 37 (vP g0) rfl (hS36.pick [1] rfl rfl) (gv1 34 38 (vP g0) rfl (hS36.pick [1] rfl rfl) (gv1 35 39 (vQ g0 4) rfl (hS36.pick [1] rfl rfl) (gu1 36 40 (i6 p0_4) rfl (hS36.pick [1] rfl rfl) (fun w hSw => rl1 (hSw.box 0 rfl 4 rfl)) ?_))))))
 have hP38 : St _ _ w35 ([plE g0 zA zc A0_1 c0_1 zb zg zl zn p0_4 p0_5 p0_6 p0_7 p0_8 p0_9 p0_10 p0_11] ++ [rowE .u8 5 (some ⟨w7.heap.size, 0, none⟩) 1 ([26])]) := hS36.pick [1, 0] rfl rfl
 obtain ⟨b40, hc39, hO13⟩ := bind_in hO13
 try dsimp only at hO13
 refine gdC 37 ⟨some 41, _, _, _, _, _⟩ _ rfl (by kernel_rfl) (pSyl_ok N zb zg zl zn p0_4 p0_5 p0_6 p0_7 p0_8 p0_9 p0_10 p0_11 p0_4 g0 zA zc A0_1 c0_1 _ hc39 w35 (hP38.vwA hv0_0) (hP38.vwA hv0_1) hP38.part) ?_
 rintro _ w41 ⟨rfl, hT43⟩
 have hS42 : St _ _ w41 [rowE .u8 5 (some ⟨w7.heap.size, 0, none⟩) 1 ([26]), plE g0 zA zc A0_1 c0_1 zb zg zl zn p0_4 p0_5 p0_6 p0_7 p0_8 p0_9 p0_10 p0_11] := hP38.lendN _ hT43
 refine ⟨(hS42.pick [1] rfl rfl), gv1 38 42 (.bool b40) rfl (hS42.pick [1] rfl rfl) (gv1 39 43 (.bool b40) rfl (hS42.pick [1] rfl rfl) (gv1 40 2 (.int .u8 0) rfl (hS42.pick [1] rfl rfl) (gv1 41 3 (.bool b40) rfl (hS42.pick [1] rfl rfl) (gd_done (by kernel_rfl) (gx_thenN (hK4 _ _ ?_))))))⟩
 refine gx_ret ?_
 obtain rfl := sj hO13
 exact gxF (.tuple #[.int .u8 0, .bool b40]) ⟨_, rfl, rfl, (hS42.pick [1] rfl rfl)⟩
 try dsimp only at hO13
 refine gz1 20 24 rfl hS8 (gz1 21 25 rfl hS8 (gz1 22 26 rfl hS8 (gz1 23 27 rfl hS8 (gz1 24 28 rfl hS8 (gz1 25 29 rfl hS8 (gz1 26 30 rfl hS8 (gz1 27 31 rfl hS8 ?_)))))))
 refine gz1 28 32 rfl hS8 (gz1 29 33 rfl hS8 (gz1 30 34 rfl hS8 (gz1 31 35 rfl hS8 (gz1 32 36 rfl hS8 (gz1 33 37 rfl hS8 (gz1 34 38 rfl hS8 (gz1 35 39 rfl hS8 ?_)))))))
 refine gz1 36 40 rfl hS8 (gz1 37 41 rfl hS8 (gz1 38 42 rfl hS8 (gv1 39 43 (.bool true) rfl hS8 (gv1 40 2 (.int .u8 0) rfl hS8 (gv1 41 3 (.bool true) rfl hS8 (gd_done (by kernel_rfl) (gx_thenN ?_)))))))
 refine hK4 _ _ (gx_ret ?_)
 obtain rfl := sj hO13
 exact gxF (.tuple #[.int .u8 0, .bool true]) ⟨_, rfl, rfl, hS8⟩
 intro hK15
 have hP16 : St _ _ w5 ([plE g0 zA zc A0_1 c0_1 zb zg zl zn p0_4 p0_5 p0_6 p0_7 p0_8 p0_9 p0_10 p0_11] ++ []) := hS6
 obtain ⟨b18, hc17, hE12⟩ := bind_in hE12
 try dsimp only at hE12
 refine gdC 7 ⟨some 11, _, _, _, _, _⟩ _ rfl (by kernel_rfl) (pSyl_ok N zb zg zl zn p0_4 p0_5 p0_6 p0_7 p0_8 p0_9 p0_10 p0_11 zn g0 zA zc A0_1 c0_1 _ hc17 w5 (hP16.vwA hv0_0) (hP16.vwA hv0_1) hP16.part) ?_
 rintro _ w19 ⟨rfl, hT21⟩
 have hS20 : St _ _ w19 [plE g0 zA zc A0_1 c0_1 zb zg zl zn p0_4 p0_5 p0_6 p0_7 p0_8 p0_9 p0_10 p0_11] := hP16.lendN _ hT21
 refine ⟨hS20, gv1 8 12 (.bool b18) rfl hS20 ?_⟩
 rcases b18 with _ | _
 try dsimp only at hE12
 refine gz1 9 13 rfl hS20 (gz1 10 14 rfl hS20 (gz1 11 15 rfl hS20 (gz1 12 16 rfl hS20 (gz1 13 17 rfl hS20 (gz1 14 18 rfl hS20 (gz1 15 19 rfl hS20 (gz1 16 20 rfl hS20 ?_)))))))
 refine gz1 17 21 rfl hS20 (gv1 18 22 (.bool false) rfl hS20 ?_)
 exact gd_to hK15 (by kernel_rfl) ⟨false, selfA_i (by kernel_rfl), (sj hE12), hS20⟩
 try dsimp only at hE12
 refine gv1 9 13 (vP g0) rfl hS20 (gv1 10 14 (vP g0) rfl hS20 (gv1 11 15 (vP g0) rfl hS20 (gv1 12 16 (vP g0) rfl hS20 (gv1 13 17 (vP g0) rfl hS20 (gv1 14 18 (vQ g0 4) rfl hS20 (gu1 15 19 (i6 p0_4) rfl hS20 (fun w hSw => rl1 (hSw.box 0 rfl 4 rfl)) (gdR 16 ⟨some 20, _, _, _, _, _⟩ rfl (st_made .u8 5 [25] hS20 (by show 1 ≤ 1000000000; decide) (by kernel_rfl)) ?_)))))))
 rintro _ w22 ⟨rfl, hS23⟩
 have hS23 : St _ _ w22 [plE g0 zA zc A0_1 c0_1 zb zg zl zn p0_4 p0_5 p0_6 p0_7 p0_8 p0_9 p0_10 p0_11, rowE .u8 5 (some ⟨w19.heap.size, 0, none⟩) 1 ([25])] := hS23
 refine ⟨(hS23.pick [0] rfl rfl), ?_⟩
 have hP24 : St _ _ w22 ([plE g0 zA zc A0_1 c0_1 zb zg zl zn p0_4 p0_5 p0_6 p0_7 p0_8 p0_9 p0_10 p0_11] ++ [rowE .u8 5 (some ⟨w19.heap.size, 0, none⟩) 1 ([25])]) := hS23
 obtain ⟨b26, hc25, hE12⟩ := bind_in hE12
 try dsimp only at hE12
 refine gdC 17 ⟨some 21, _, _, _, _, _⟩ _ rfl (by kernel_rfl) (pIs_ok N zb zg zl zn p0_4 p0_5 p0_6 p0_7 p0_8 p0_9 p0_10 p0_11 p0_4 ([25]) g0 zA zc A0_1 c0_1 (some ⟨w19.heap.size, 0, none⟩) 1 _ hc25 w22 (hP24.vwA hv0_0) (hP24.vwA hv0_1) (hP24.vwB 0 rfl) hP24.part) ?_
 rintro _ w27 ⟨rfl, hT29⟩
 have hS28 : St _ _ w27 [rowE .u8 5 (some ⟨w19.heap.size, 0, none⟩) 1 ([25]), plE g0 zA zc A0_1 c0_1 zb zg zl zn p0_4 p0_5 p0_6 p0_7 p0_8 p0_9 p0_10 p0_11] := hP24.lendN _ hT29
 refine ⟨(hS28.pick [1] rfl rfl), gv1 18 22 (.bool b26) rfl (hS28.pick [1] rfl rfl) ?_⟩
 exact gd_to hK15 (by kernel_rfl) ⟨b26, selfA_i (by kernel_rfl), (sj hE12), (hS28.pick [1] rfl rfl)⟩
def qBetweenLetters (N : Nat) (zb : List Int) (zg : List Int) (zl : Int) (zn : Int) (p0_4 : Int) (p0_5 : Int) (p0_6 : Int) (p0_7 : Int) (p0_8 : Int) (p0_9 : Bool) (p0_10 : Bool) (p0_11 : Bool) : Option (Int × Bool) :=
 ((pLetter N zb zg zl zn p0_4 p0_5 p0_6 p0_7 p0_8 p0_9 p0_10 p0_11 zn).bind fun b9 => (match b9 with | true => ((pLetter N zb zg zl zn p0_4 p0_5 p0_6 p0_7 p0_8 p0_9 p0_10 p0_11 p0_4).bind fun b15 => some (0, b15)) | false => some (0, false)))
def qBetweenLetters_R (zb : List Int) (zg : List Int) (zl : Int) (zn : Int) (p0_4 : Int) (p0_5 : Int) (p0_6 : Int) (p0_7 : Int) (p0_8 : Int) (p0_9 : Bool) (p0_10 : Bool) (p0_11 : Bool) (g0 : Nat) (zA : Option Addr) (zc : Nat) (A0_1 : Option Addr) (c0_1 : Nat) (r : Int × Bool) (w0 : World) (v : Value) (w : World) : Prop := v = .tuple #[.int .u8 r.1, .bool r.2] ∧ St (foots [plE g0 zA zc A0_1 c0_1 zb zg zl zn p0_4 p0_5 p0_6 p0_7 p0_8 p0_9 p0_10 p0_11]) w0 w [plE g0 zA zc A0_1 c0_1 zb zg zl zn p0_4 p0_5 p0_6 p0_7 p0_8 p0_9 p0_10 p0_11]
theorem qBetweenLetters_ok (N : Nat) (zb : List Int) (zg : List Int) (zl : Int) (zn : Int) (p0_4 : Int) (p0_5 : Int) (p0_6 : Int) (p0_7 : Int) (p0_8 : Int) (p0_9 : Bool) (p0_10 : Bool) (p0_11 : Bool) (g0 : Nat) (zA : Option Addr) (zc : Nat) (A0_1 : Option Addr) (c0_1 : Nat) (r : Int × Bool) (hF : qBetweenLetters N zb zg zl zn p0_4 p0_5 p0_6 p0_7 p0_8 p0_9 p0_10 p0_11 = some r) (w0 : World) (hv0_0 : Vw (foots [plE g0 zA zc A0_1 c0_1 zb zg zl zn p0_4 p0_5 p0_6 p0_7 p0_8 p0_9 p0_10 p0_11]) .i32 w0 zA zc zb) (hv0_1 : Vw (foots [plE g0 zA zc A0_1 c0_1 zb zg zl zn p0_4 p0_5 p0_6 p0_7 p0_8 p0_9 p0_10 p0_11]) .u8 w0 A0_1 c0_1 zg) (hl : St (foots [plE g0 zA zc A0_1 c0_1 zb zg zl zn p0_4 p0_5 p0_6 p0_7 p0_8 p0_9 p0_10 p0_11]) w0 w0 [plE g0 zA zc A0_1 c0_1 zb zg zl zn p0_4 p0_5 p0_6 p0_7 p0_8 p0_9 p0_10 p0_11]) :
  Calls Tryz.prog 59 #[.pointer (some ⟨g0, 0, none⟩)] w0 fun e w => ∃ v, e = .returned v ∧ qBetweenLetters_R zb zg zl zn p0_4 p0_5 p0_6 p0_7 p0_8 p0_9 p0_10 p0_11 g0 zA zc A0_1 c0_1 r w0 v w := by
 have hS0 := hl
 unfold qBetweenLetters at hF
 refine calls_of Tryz.func59 rfl ⟨((vP g0) :: un 21 ([])).toArray, []⟩ (by kernel_rfl) (gx_seq (fun K1 hK2 => gx_region (gx_k (.int .u8 0) w0 (gx_k (.bool false) w0 (gx_nil (gx_thenN (hK2 _ _ (gx_seq (fun K3 hK4 => ?_)))))))))
 refine gdst (fun w => St (foots [plE g0 zA zc A0_1 c0_1 zb zg zl zn p0_4 p0_5 p0_6 p0_7 p0_8 p0_9 p0_10 p0_11]) w0 w [plE g0 zA zc A0_1 c0_1 zb zg zl zn p0_4 p0_5 p0_6 p0_7 p0_8 p0_9 p0_10 p0_11]) 20 ?_
 have hS6 := hS0.drew
 generalize w0.drew = w5 at hS6 ⊢
 refine gv1 0 4 (vP g0) rfl hS6 (gv1 1 5 (vP g0) rfl hS6 (gv1 2 6 (vP g0) rfl hS6 (gv1 3 7 (vP g0) rfl hS6 (gv1 4 8 (vP g0) rfl hS6 (gv1 5 9 (vQ g0 3) rfl hS6 (gu1 6 10 (i6 zn) rfl hS6 (fun w hSw => rl1 (hSw.box 0 rfl 3 rfl)) ?_))))))
 have hP7 : St _ _ w5 ([plE g0 zA zc A0_1 c0_1 zb zg zl zn p0_4 p0_5 p0_6 p0_7 p0_8 p0_9 p0_10 p0_11] ++ []) := hS6
 obtain ⟨b9, hc8, hF⟩ := bind_in hF
 try dsimp only at hF
 refine gdC 7 ⟨some 11, _, _, _, _, _⟩ _ rfl (by kernel_rfl) (pLetter_ok N zb zg zl zn p0_4 p0_5 p0_6 p0_7 p0_8 p0_9 p0_10 p0_11 zn g0 zA zc A0_1 c0_1 _ hc8 w5 (hP7.vwA hv0_0) (hP7.vwA hv0_1) hP7.part) ?_
 rintro _ w10 ⟨rfl, hT12⟩
 have hS11 : St _ _ w10 [plE g0 zA zc A0_1 c0_1 zb zg zl zn p0_4 p0_5 p0_6 p0_7 p0_8 p0_9 p0_10 p0_11] := hP7.lendN _ hT12
 refine ⟨hS11, gv1 8 12 (.bool b9) rfl hS11 ?_⟩
 rcases b9 with _ | _
 try dsimp only at hF
 refine gz1 9 13 rfl hS11 (gz1 10 14 rfl hS11 (gz1 11 15 rfl hS11 (gz1 12 16 rfl hS11 (gz1 13 17 rfl hS11 (gz1 14 18 rfl hS11 (gz1 15 19 rfl hS11 (gz1 16 20 rfl hS11 ?_)))))))
 refine gv1 17 21 (.bool false) rfl hS11 (gv1 18 2 (.int .u8 0) rfl hS11 (gv1 19 3 (.bool false) rfl hS11 (gd_done (by kernel_rfl) (gx_thenN (hK4 _ _ (gx_ret ?_))))))
 obtain rfl := sj hF
 exact gxF (.tuple #[.int .u8 0, .bool false]) ⟨_, rfl, rfl, hS11⟩
 try dsimp only at hF
 refine gv1 9 13 (vP g0) rfl hS11 (gv1 10 14 (vP g0) rfl hS11 (gv1 11 15 (vP g0) rfl hS11 (gv1 12 16 (vP g0) rfl hS11 (gv1 13 17 (vP g0) rfl hS11 (gv1 14 18 (vQ g0 4) rfl hS11 (gu1 15 19 (i6 p0_4) rfl hS11 (fun w hSw => rl1 (hSw.box 0 rfl 4 rfl)) ?_))))))
 have hP13 : St _ _ w10 ([plE g0 zA zc A0_1 c0_1 zb zg zl zn p0_4 p0_5 p0_6 p0_7 p0_8 p0_9 p0_10 p0_11] ++ []) := hS11
 obtain ⟨b15, hc14, hF⟩ := bind_in hF
 try dsimp only at hF
 refine gdC 16 ⟨some 20, _, _, _, _, _⟩ _ rfl (by kernel_rfl) (pLetter_ok N zb zg zl zn p0_4 p0_5 p0_6 p0_7 p0_8 p0_9 p0_10 p0_11 p0_4 g0 zA zc A0_1 c0_1 _ hc14 w10 (hP13.vwA hv0_0) (hP13.vwA hv0_1) hP13.part) ?_
 rintro _ w16 ⟨rfl, hT18⟩
 have hS17 : St _ _ w16 [plE g0 zA zc A0_1 c0_1 zb zg zl zn p0_4 p0_5 p0_6 p0_7 p0_8 p0_9 p0_10 p0_11] := hP13.lendN _ hT18
 refine ⟨hS17, gv1 17 21 (.bool b15) rfl hS17 (gv1 18 2 (.int .u8 0) rfl hS17 (gv1 19 3 (.bool b15) rfl hS17 (gd_done (by kernel_rfl) (gx_thenN (hK4 _ _ (gx_ret ?_))))))⟩
 obtain rfl := sj hF
 exact gxF (.tuple #[.int .u8 0, .bool b15]) ⟨_, rfl, rfl, hS17⟩
def qSeparatorLetter (N : Nat) (zb : List Int) (zg : List Int) (zl : Int) (zn : Int) (p0_4 : Int) (p0_5 : Int) (p0_6 : Int) (p0_7 : Int) (p0_8 : Int) (p0_9 : Bool) (p0_10 : Bool) (p0_11 : Bool) : Option (Int × Bool) :=
 ((pIs N zb zg zl zn p0_4 p0_5 p0_6 p0_7 p0_8 p0_9 p0_10 p0_11 zn ([23])).bind fun b11 => (match b11 with | true => ((pLetter N zb zg zl zn p0_4 p0_5 p0_6 p0_7 p0_8 p0_9 p0_10 p0_11 p0_4).bind fun b17 => some (0, b17)) | false => some (0, false)))
def qSeparatorLetter_R (zb : List Int) (zg : List Int) (zl : Int) (zn : Int) (p0_4 : Int) (p0_5 : Int) (p0_6 : Int) (p0_7 : Int) (p0_8 : Int) (p0_9 : Bool) (p0_10 : Bool) (p0_11 : Bool) (g0 : Nat) (zA : Option Addr) (zc : Nat) (A0_1 : Option Addr) (c0_1 : Nat) (r : Int × Bool) (w0 : World) (v : Value) (w : World) : Prop := v = .tuple #[.int .u8 r.1, .bool r.2] ∧ St (foots [plE g0 zA zc A0_1 c0_1 zb zg zl zn p0_4 p0_5 p0_6 p0_7 p0_8 p0_9 p0_10 p0_11]) w0 w [plE g0 zA zc A0_1 c0_1 zb zg zl zn p0_4 p0_5 p0_6 p0_7 p0_8 p0_9 p0_10 p0_11]
theorem qSeparatorLetter_ok (N : Nat) (zb : List Int) (zg : List Int) (zl : Int) (zn : Int) (p0_4 : Int) (p0_5 : Int) (p0_6 : Int) (p0_7 : Int) (p0_8 : Int) (p0_9 : Bool) (p0_10 : Bool) (p0_11 : Bool) (g0 : Nat) (zA : Option Addr) (zc : Nat) (A0_1 : Option Addr) (c0_1 : Nat) (r : Int × Bool) (hF : qSeparatorLetter N zb zg zl zn p0_4 p0_5 p0_6 p0_7 p0_8 p0_9 p0_10 p0_11 = some r) (w0 : World) (hv0_0 : Vw (foots [plE g0 zA zc A0_1 c0_1 zb zg zl zn p0_4 p0_5 p0_6 p0_7 p0_8 p0_9 p0_10 p0_11]) .i32 w0 zA zc zb) (hv0_1 : Vw (foots [plE g0 zA zc A0_1 c0_1 zb zg zl zn p0_4 p0_5 p0_6 p0_7 p0_8 p0_9 p0_10 p0_11]) .u8 w0 A0_1 c0_1 zg) (hl : St (foots [plE g0 zA zc A0_1 c0_1 zb zg zl zn p0_4 p0_5 p0_6 p0_7 p0_8 p0_9 p0_10 p0_11]) w0 w0 [plE g0 zA zc A0_1 c0_1 zb zg zl zn p0_4 p0_5 p0_6 p0_7 p0_8 p0_9 p0_10 p0_11]) :
  Calls Tryz.prog 60 #[.pointer (some ⟨g0, 0, none⟩)] w0 fun e w => ∃ v, e = .returned v ∧ qSeparatorLetter_R zb zg zl zn p0_4 p0_5 p0_6 p0_7 p0_8 p0_9 p0_10 p0_11 g0 zA zc A0_1 c0_1 r w0 v w := by
 have hS0 := hl
 unfold qSeparatorLetter at hF
 refine calls_of Tryz.func60 rfl ⟨((vP g0) :: un 22 ([])).toArray, []⟩ (by kernel_rfl) (gx_seq (fun K1 hK2 => gx_region (gx_k (.int .u8 0) w0 (gx_k (.bool false) w0 (gx_nil (gx_thenN (hK2 _ _ (gx_seq (fun K3 hK4 => ?_)))))))))
 refine gdst (fun w => St (foots [plE g0 zA zc A0_1 c0_1 zb zg zl zn p0_4 p0_5 p0_6 p0_7 p0_8 p0_9 p0_10 p0_11]) w0 w [plE g0 zA zc A0_1 c0_1 zb zg zl zn p0_4 p0_5 p0_6 p0_7 p0_8 p0_9 p0_10 p0_11]) 21 ?_
 have hS6 := hS0.drew
 generalize w0.drew = w5 at hS6 ⊢
 refine gv1 0 4 (vP g0) rfl hS6 (gv1 1 5 (vP g0) rfl hS6 (gv1 2 6 (vP g0) rfl hS6 (gv1 3 7 (vP g0) rfl hS6 (gv1 4 8 (vP g0) rfl hS6 (gv1 5 9 (vQ g0 3) rfl hS6 (gu1 6 10 (i6 zn) rfl hS6 (fun w hSw => rl1 (hSw.box 0 rfl 3 rfl)) (gdR 7 ⟨some 11, _, _, _, _, _⟩ rfl (st_made .u8 5 [23] hS6 (by show 1 ≤ 1000000000; decide) (by kernel_rfl)) ?_)))))))
 rintro _ w7 ⟨rfl, hS8⟩
 have hS8 : St _ _ w7 [plE g0 zA zc A0_1 c0_1 zb zg zl zn p0_4 p0_5 p0_6 p0_7 p0_8 p0_9 p0_10 p0_11, rowE .u8 5 (some ⟨w5.heap.size, 0, none⟩) 1 ([23])] := hS8
 refine ⟨(hS8.pick [0] rfl rfl), ?_⟩
 have hP9 : St _ _ w7 ([plE g0 zA zc A0_1 c0_1 zb zg zl zn p0_4 p0_5 p0_6 p0_7 p0_8 p0_9 p0_10 p0_11] ++ [rowE .u8 5 (some ⟨w5.heap.size, 0, none⟩) 1 ([23])]) := hS8
 obtain ⟨b11, hc10, hF⟩ := bind_in hF
 try dsimp only at hF
 refine gdC 8 ⟨some 12, _, _, _, _, _⟩ _ rfl (by kernel_rfl) (pIs_ok N zb zg zl zn p0_4 p0_5 p0_6 p0_7 p0_8 p0_9 p0_10 p0_11 zn ([23]) g0 zA zc A0_1 c0_1 (some ⟨w5.heap.size, 0, none⟩) 1 _ hc10 w7 (hP9.vwA hv0_0) (hP9.vwA hv0_1) (hP9.vwB 0 rfl) hP9.part) ?_
 rintro _ w12 ⟨rfl, hT14⟩
 have hS13 : St _ _ w12 [rowE .u8 5 (some ⟨w5.heap.size, 0, none⟩) 1 ([23]), plE g0 zA zc A0_1 c0_1 zb zg zl zn p0_4 p0_5 p0_6 p0_7 p0_8 p0_9 p0_10 p0_11] := hP9.lendN _ hT14
 refine ⟨(hS13.pick [1] rfl rfl), gv1 9 13 (.bool b11) rfl (hS13.pick [1] rfl rfl) ?_⟩
 rcases b11 with _ | _
 try dsimp only at hF
 refine gz1 10 14 rfl (hS13.pick [1] rfl rfl) (gz1 11 15 rfl (hS13.pick [1] rfl rfl) (gz1 12 16 rfl (hS13.pick [1] rfl rfl) (gz1 13 17 rfl (hS13.pick [1] rfl rfl) (gz1 14 18 rfl (hS13.pick [1] rfl rfl) (gz1 15 19 rfl (hS13.pick [1] rfl rfl) (gz1 16 20 rfl (hS13.pick [1] rfl rfl) (gz1 17 21 rfl (hS13.pick [1] rfl rfl) ?_)))))))
 refine gv1 18 22 (.bool false) rfl (hS13.pick [1] rfl rfl) (gv1 19 2 (.int .u8 0) rfl (hS13.pick [1] rfl rfl) (gv1 20 3 (.bool false) rfl (hS13.pick [1] rfl rfl) (gd_done (by kernel_rfl) (gx_thenN (hK4 _ _ (gx_ret ?_))))))
 obtain rfl := sj hF
 exact gxF (.tuple #[.int .u8 0, .bool false]) ⟨_, rfl, rfl, (hS13.pick [1] rfl rfl)⟩
 try dsimp only at hF
 refine gv1 10 14 (vP g0) rfl (hS13.pick [1] rfl rfl) (gv1 11 15 (vP g0) rfl (hS13.pick [1] rfl rfl) (gv1 12 16 (vP g0) rfl (hS13.pick [1] rfl rfl) (gv1 13 17 (vP g0) rfl (hS13.pick [1] rfl rfl) (gv1 14 18 (vP g0) rfl (hS13.pick [1] rfl rfl) (gv1 15 19 (vQ g0 4) rfl (hS13.pick [1] rfl rfl) (gu1 16 20 (i6 p0_4) rfl (hS13.pick [1] rfl rfl) (fun w hSw => rl1 (hSw.box 0 rfl 4 rfl)) ?_))))))
 have hP15 : St _ _ w12 ([plE g0 zA zc A0_1 c0_1 zb zg zl zn p0_4 p0_5 p0_6 p0_7 p0_8 p0_9 p0_10 p0_11] ++ [rowE .u8 5 (some ⟨w5.heap.size, 0, none⟩) 1 ([23])]) := hS13.pick [1, 0] rfl rfl
 obtain ⟨b17, hc16, hF⟩ := bind_in hF
 try dsimp only at hF
 refine gdC 17 ⟨some 21, _, _, _, _, _⟩ _ rfl (by kernel_rfl) (pLetter_ok N zb zg zl zn p0_4 p0_5 p0_6 p0_7 p0_8 p0_9 p0_10 p0_11 p0_4 g0 zA zc A0_1 c0_1 _ hc16 w12 (hP15.vwA hv0_0) (hP15.vwA hv0_1) hP15.part) ?_
 rintro _ w18 ⟨rfl, hT20⟩
 have hS19 : St _ _ w18 [rowE .u8 5 (some ⟨w5.heap.size, 0, none⟩) 1 ([23]), plE g0 zA zc A0_1 c0_1 zb zg zl zn p0_4 p0_5 p0_6 p0_7 p0_8 p0_9 p0_10 p0_11] := hP15.lendN _ hT20
 refine ⟨(hS19.pick [1] rfl rfl), gv1 18 22 (.bool b17) rfl (hS19.pick [1] rfl rfl) (gv1 19 2 (.int .u8 0) rfl (hS19.pick [1] rfl rfl) (gv1 20 3 (.bool b17) rfl (hS19.pick [1] rfl rfl) (gd_done (by kernel_rfl) (gx_thenN (hK4 _ _ (gx_ret ?_))))))⟩
 obtain rfl := sj hF
 exact gxF (.tuple #[.int .u8 0, .bool b17]) ⟨_, rfl, rfl, (hS19.pick [1] rfl rfl)⟩
def qBesideBracket (N : Nat) (zb : List Int) (zg : List Int) (zl : Int) (zn : Int) (p0_4 : Int) (p0_5 : Int) (p0_6 : Int) (p0_7 : Int) (p0_8 : Int) (p0_9 : Bool) (p0_10 : Bool) (p0_11 : Bool) : Option (Int × Bool) :=
 ((((pOfWord N zb zg zl zn p0_4 p0_5 p0_6 p0_7 p0_8 p0_9 p0_10 p0_11 zn).bind fun b18 => (match b18 with | true => ((pIs N zb zg zl zn p0_4 p0_5 p0_6 p0_7 p0_8 p0_9 p0_10 p0_11 p0_4 ([19])).bind fun b26 => some (b26)) | false => some (false))) : Option (Bool)).bind fun b10 => (((match b10 with | true => ((pWide N zb zg zl zn p0_4 p0_5 p0_6 p0_7 p0_8 p0_9 p0_10 p0_11 p0_4).bind fun b41 => (match b41 with | true => some (false) | false => some (true))) | false => some (false)) : Option (Bool)).bind fun b33 => (match b33 with | true => some (0, true) | false => ((((pIs N zb zg zl zn p0_4 p0_5 p0_6 p0_7 p0_8 p0_9 p0_10 p0_11 zn ([20])).bind fun b58 => (match b58 with | true => ((pWide N zb zg zl zn p0_4 p0_5 p0_6 p0_7 p0_8 p0_9 p0_10 p0_11 zn).bind fun b64 => (match b64 with | true => some (false) | false => some (true))) | false => some (false))) : Option (Bool)).bind fun b50 => (match b50 with | true => ((pOfWord N zb zg zl zn p0_4 p0_5 p0_6 p0_7 p0_8 p0_9 p0_10 p0_11 p0_4).bind fun b70 => some (0, b70)) | false => some (0, false))))))
def qBesideBracket_R (zb : List Int) (zg : List Int) (zl : Int) (zn : Int) (p0_4 : Int) (p0_5 : Int) (p0_6 : Int) (p0_7 : Int) (p0_8 : Int) (p0_9 : Bool) (p0_10 : Bool) (p0_11 : Bool) (g0 : Nat) (zA : Option Addr) (zc : Nat) (A0_1 : Option Addr) (c0_1 : Nat) (r : Int × Bool) (w0 : World) (v : Value) (w : World) : Prop := v = .tuple #[.int .u8 r.1, .bool r.2] ∧ St (foots [plE g0 zA zc A0_1 c0_1 zb zg zl zn p0_4 p0_5 p0_6 p0_7 p0_8 p0_9 p0_10 p0_11]) w0 w [plE g0 zA zc A0_1 c0_1 zb zg zl zn p0_4 p0_5 p0_6 p0_7 p0_8 p0_9 p0_10 p0_11]
theorem qBesideBracket_ok (N : Nat) (zb : List Int) (zg : List Int) (zl : Int) (zn : Int) (p0_4 : Int) (p0_5 : Int) (p0_6 : Int) (p0_7 : Int) (p0_8 : Int) (p0_9 : Bool) (p0_10 : Bool) (p0_11 : Bool) (g0 : Nat) (zA : Option Addr) (zc : Nat) (A0_1 : Option Addr) (c0_1 : Nat) (r : Int × Bool) (hF : qBesideBracket N zb zg zl zn p0_4 p0_5 p0_6 p0_7 p0_8 p0_9 p0_10 p0_11 = some r) (w0 : World) (hv0_0 : Vw (foots [plE g0 zA zc A0_1 c0_1 zb zg zl zn p0_4 p0_5 p0_6 p0_7 p0_8 p0_9 p0_10 p0_11]) .i32 w0 zA zc zb) (hv0_1 : Vw (foots [plE g0 zA zc A0_1 c0_1 zb zg zl zn p0_4 p0_5 p0_6 p0_7 p0_8 p0_9 p0_10 p0_11]) .u8 w0 A0_1 c0_1 zg) (hl : St (foots [plE g0 zA zc A0_1 c0_1 zb zg zl zn p0_4 p0_5 p0_6 p0_7 p0_8 p0_9 p0_10 p0_11]) w0 w0 [plE g0 zA zc A0_1 c0_1 zb zg zl zn p0_4 p0_5 p0_6 p0_7 p0_8 p0_9 p0_10 p0_11]) :
  Calls Tryz.prog 61 #[.pointer (some ⟨g0, 0, none⟩)] w0 fun e w => ∃ v, e = .returned v ∧ qBesideBracket_R zb zg zl zn p0_4 p0_5 p0_6 p0_7 p0_8 p0_9 p0_10 p0_11 g0 zA zc A0_1 c0_1 r w0 v w := by
 have hS0 := hl
 unfold qBesideBracket at hF
 refine calls_of Tryz.func61 rfl ⟨((vP g0) :: un 65 ([])).toArray, []⟩ (by kernel_rfl) (gx_seq (fun K1 hK2 => gx_region (gx_k (.int .u8 0) w0 (gx_k (.bool false) w0 (gx_nil (gx_thenN (hK2 _ _ (gx_seq (fun K3 hK4 => ?_)))))))))
 refine gdst (fun w => St (foots [plE g0 zA zc A0_1 c0_1 zb zg zl zn p0_4 p0_5 p0_6 p0_7 p0_8 p0_9 p0_10 p0_11]) w0 w [plE g0 zA zc A0_1 c0_1 zb zg zl zn p0_4 p0_5 p0_6 p0_7 p0_8 p0_9 p0_10 p0_11]) 64 ?_
 have hS6 := hS0.drew
 generalize w0.drew = w5 at hS6 ⊢
 refine gv1 0 4 (vP g0) rfl hS6 (gv1 1 5 (vP g0) rfl hS6 (gv1 2 6 (vP g0) rfl hS6 (gv1 3 7 (vP g0) rfl hS6 (gv1 4 8 (vP g0) rfl hS6 (gv1 5 9 (vQ g0 3) rfl hS6 (gu1 6 10 (i6 zn) rfl hS6 (fun w hSw => rl1 (hSw.box 0 rfl 3 rfl)) ?_))))))
 obtain ⟨c11, hE12, hO13⟩ := bind_in hF
 refine gd_mid (fun a w => ∃ (b10 : Bool), selfA (fun u9 => ⟨((vP g0) :: undef :: (.int .u8 0) :: (.bool false) :: (vP g0) :: (vP g0) :: (vP g0) :: (vP g0) :: (vP g0) :: (vQ g0 3) :: (i6 zn) :: dd u9 11 11 ((.bool b10) :: un 43 ([]))).toArray, []⟩) a ∧ b10 = c11 ∧ St (foots [plE g0 zA zc A0_1 c0_1 zb zg zl zn p0_4 p0_5 p0_6 p0_7 p0_8 p0_9 p0_10 p0_11]) w0 w [plE g0 zA zc A0_1 c0_1 zb zg zl zn p0_4 p0_5 p0_6 p0_7 p0_8 p0_9 p0_10 p0_11]) 45 #[true, true, true, true, true, true, true, true, true, true, true, true, true, true, true, true, true, true, true, false, false, false, false, false, false, false, false, false, false, false, false, false, false, false, false, false, false, false, false, false, false, false, false, false, false, false, false, false, false, false, false, false, false, false, false, false, false, false, false, false, false, false, false, false] ?_ ?_
 rintro _ w7 ⟨b10, hq14, rfl, hS8⟩
 obtain ⟨u9, rfl⟩ := selfA_u hq14
 try dsimp only at hO13
 obtain ⟨c34, hE35, hO36⟩ := bind_in hO13
 refine gd_mid (fun a w => ∃ (b33 : Bool), selfA (fun u32 => ⟨((vP g0) :: undef :: (.int .u8 0) :: (.bool false) :: (vP g0) :: (vP g0) :: (vP g0) :: (vP g0) :: (vP g0) :: (vQ g0 3) :: (i6 zn) :: dd u9 11 11 ((.bool b10) :: dd u32 23 10 ((.bool b33) :: un 32 ([])))).toArray, []⟩) a ∧ b33 = c34 ∧ St (foots [plE g0 zA zc A0_1 c0_1 zb zg zl zn p0_4 p0_5 p0_6 p0_7 p0_8 p0_9 p0_10 p0_11]) w0 w [plE g0 zA zc A0_1 c0_1 zb zg zl zn p0_4 p0_5 p0_6 p0_7 p0_8 p0_9 p0_10 p0_11]) 34 #[true, true, true, true, true, true, true, true, true, true, true, true, true, true, true, true, true, true, true, true, true, true, true, true, true, true, true, true, true, true, false, false, false, false, false, false, false, false, false, false, false, false, false, false, false, false, false, false, false, false, false, false, false, false, false, false, false, false, false, false, false, false, false, false] ?_ ?_
 rintro _ w30 ⟨b33, hq37, rfl, hS31⟩
 obtain ⟨u32, rfl⟩ := selfA_u hq37
 try dsimp only at hO36
 refine gv1 30 34 (.bool b33) rfl hS31 ?_
 rcases b33 with _ | _
 try dsimp only at hO36
 refine gv1 31 35 (vP g0) rfl hS31 (gv1 32 36 (vP g0) rfl hS31 (gv1 33 37 (vP g0) rfl hS31 (gv1 34 38 (vP g0) rfl hS31 (gv1 35 39 (vP g0) rfl hS31 (gv1 36 40 (vQ g0 3) rfl hS31 (gu1 37 41 (i6 zn) rfl hS31 (fun w hSw => rl1 (hSw.box 0 rfl 3 rfl)) (gdR 38 ⟨some 42, _, _, _, _, _⟩ rfl (st_made .u8 5 [20] hS31 (by show 1 ≤ 1000000000; decide) (by kernel_rfl)) ?_)))))))
 rintro _ w45 ⟨rfl, hS46⟩
 have hS46 : St _ _ w45 [plE g0 zA zc A0_1 c0_1 zb zg zl zn p0_4 p0_5 p0_6 p0_7 p0_8 p0_9 p0_10 p0_11, rowE .u8 5 (some ⟨w30.heap.size, 0, none⟩) 1 ([20])] := hS46
 refine ⟨(hS46.pick [0] rfl rfl), ?_⟩
 obtain ⟨c51, hE52, hO53⟩ := bind_in hO36
 refine gd_mid (fun a w => ∃ (b50 : Bool), selfA (fun u49 => ⟨((vP g0) :: undef :: (.int .u8 0) :: (.bool false) :: (vP g0) :: (vP g0) :: (vP g0) :: (vP g0) :: (vP g0) :: (vQ g0 3) :: (i6 zn) :: dd u9 11 11 ((.bool b10) :: dd u32 23 10 ((.bool false) :: (.bool false) :: (vP g0) :: (vP g0) :: (vP g0) :: (vP g0) :: (vP g0) :: (vQ g0 3) :: (i6 zn) :: dd u49 42 12 ((.bool b50) :: un 11 ([]))))).toArray, []⟩) a ∧ b50 = c51 ∧ St (foots [plE g0 zA zc A0_1 c0_1 zb zg zl zn p0_4 p0_5 p0_6 p0_7 p0_8 p0_9 p0_10 p0_11]) w0 w [plE g0 zA zc A0_1 c0_1 zb zg zl zn p0_4 p0_5 p0_6 p0_7 p0_8 p0_9 p0_10 p0_11]) 13 #[true, true, true, true, true, true, true, true, true, true, true, true, true, true, true, true, true, true, true, true, true, true, true, true, true, true, true, true, true, true, true, true, true, true, true, true, true, true, true, true, true, true, true, true, true, true, true, true, true, true, true, false, false, false, false, false, false, false, false, false, false, false, false, false] ?_ ?_
 rintro _ w47 ⟨b50, hq54, rfl, hS48⟩
 obtain ⟨u49, rfl⟩ := selfA_u hq54
 try dsimp only at hO53
 refine gv1 51 55 (.bool b50) rfl hS48 ?_
 rcases b50 with _ | _
 try dsimp only at hO53
 refine gz1 52 56 rfl hS48 (gz1 53 57 rfl hS48 (gz1 54 58 rfl hS48 (gz1 55 59 rfl hS48 (gz1 56 60 rfl hS48 (gz1 57 61 rfl hS48 (gz1 58 62 rfl hS48 (gz1 59 63 rfl hS48 ?_)))))))
 refine gv1 60 64 (.bool false) rfl hS48 (gv1 61 65 (.bool false) rfl hS48 (gv1 62 2 (.int .u8 0) rfl hS48 (gv1 63 3 (.bool false) rfl hS48 (gd_done (by kernel_rfl) (gx_thenN (hK4 _ _ (gx_ret ?_)))))))
 obtain rfl := sj hO53
 exact gxF (.tuple #[.int .u8 0, .bool false]) ⟨_, rfl, rfl, hS48⟩
 try dsimp only at hO53
 refine gv1 52 56 (vP g0) rfl hS48 (gv1 53 57 (vP g0) rfl hS48 (gv1 54 58 (vP g0) rfl hS48 (gv1 55 59 (vP g0) rfl hS48 (gv1 56 60 (vP g0) rfl hS48 (gv1 57 61 (vQ g0 4) rfl hS48 (gu1 58 62 (i6 p0_4) rfl hS48 (fun w hSw => rl1 (hSw.box 0 rfl 4 rfl)) ?_))))))
 have hP68 : St _ _ w47 ([plE g0 zA zc A0_1 c0_1 zb zg zl zn p0_4 p0_5 p0_6 p0_7 p0_8 p0_9 p0_10 p0_11] ++ []) := hS48
 obtain ⟨b70, hc69, hO53⟩ := bind_in hO53
 try dsimp only at hO53
 refine gdC 59 ⟨some 63, _, _, _, _, _⟩ _ rfl (by kernel_rfl) (pOfWord_ok N zb zg zl zn p0_4 p0_5 p0_6 p0_7 p0_8 p0_9 p0_10 p0_11 p0_4 g0 zA zc A0_1 c0_1 _ hc69 w47 (hP68.vwA hv0_0) (hP68.vwA hv0_1) hP68.part) ?_
 rintro _ w71 ⟨rfl, hT73⟩
 have hS72 : St _ _ w71 [plE g0 zA zc A0_1 c0_1 zb zg zl zn p0_4 p0_5 p0_6 p0_7 p0_8 p0_9 p0_10 p0_11] := hP68.lendN _ hT73
 refine ⟨hS72, gv1 60 64 (.bool b70) rfl hS72 (gv1 61 65 (.bool b70) rfl hS72 (gv1 62 2 (.int .u8 0) rfl hS72 (gv1 63 3 (.bool b70) rfl hS72 (gd_done (by kernel_rfl) (gx_thenN (hK4 _ _ ?_))))))⟩
 refine gx_ret ?_
 obtain rfl := sj hO53
 exact gxF (.tuple #[.int .u8 0, .bool b70]) ⟨_, rfl, rfl, hS72⟩
 intro hK55
 have hP56 : St _ _ w45 ([plE g0 zA zc A0_1 c0_1 zb zg zl zn p0_4 p0_5 p0_6 p0_7 p0_8 p0_9 p0_10 p0_11] ++ [rowE .u8 5 (some ⟨w30.heap.size, 0, none⟩) 1 ([20])]) := hS46
 obtain ⟨b58, hc57, hE52⟩ := bind_in hE52
 try dsimp only at hE52
 refine gdC 39 ⟨some 43, _, _, _, _, _⟩ _ rfl (by kernel_rfl) (pIs_ok N zb zg zl zn p0_4 p0_5 p0_6 p0_7 p0_8 p0_9 p0_10 p0_11 zn ([20]) g0 zA zc A0_1 c0_1 (some ⟨w30.heap.size, 0, none⟩) 1 _ hc57 w45 (hP56.vwA hv0_0) (hP56.vwA hv0_1) (hP56.vwB 0 rfl) hP56.part) ?_
 rintro _ w59 ⟨rfl, hT61⟩
 have hS60 : St _ _ w59 [rowE .u8 5 (some ⟨w30.heap.size, 0, none⟩) 1 ([20]), plE g0 zA zc A0_1 c0_1 zb zg zl zn p0_4 p0_5 p0_6 p0_7 p0_8 p0_9 p0_10 p0_11] := hP56.lendN _ hT61
 refine ⟨(hS60.pick [1] rfl rfl), gv1 40 44 (.bool b58) rfl (hS60.pick [1] rfl rfl) ?_⟩
 rcases b58 with _ | _
 try dsimp only at hE52
 refine gz1 41 45 rfl (hS60.pick [1] rfl rfl) (gz1 42 46 rfl (hS60.pick [1] rfl rfl) (gz1 43 47 rfl (hS60.pick [1] rfl rfl) (gz1 44 48 rfl (hS60.pick [1] rfl rfl) (gz1 45 49 rfl (hS60.pick [1] rfl rfl) (gz1 46 50 rfl (hS60.pick [1] rfl rfl) (gz1 47 51 rfl (hS60.pick [1] rfl rfl) (gz1 48 52 rfl (hS60.pick [1] rfl rfl) ?_)))))))
 refine gz1 49 53 rfl (hS60.pick [1] rfl rfl) (gv1 50 54 (.bool false) rfl (hS60.pick [1] rfl rfl) ?_)
 exact gd_to hK55 (by kernel_rfl) ⟨false, selfA_i (by kernel_rfl), (sj hE52), (hS60.pick [1] rfl rfl)⟩
 try dsimp only at hE52
 refine gv1 41 45 (vP g0) rfl (hS60.pick [1] rfl rfl) (gv1 42 46 (vP g0) rfl (hS60.pick [1] rfl rfl) (gv1 43 47 (vP g0) rfl (hS60.pick [1] rfl rfl) (gv1 44 48 (vP g0) rfl (hS60.pick [1] rfl rfl) (gv1 45 49 (vP g0) rfl (hS60.pick [1] rfl rfl) (gv1 46 50 (vQ g0 3) rfl (hS60.pick [1] rfl rfl) (gu1 47 51 (i6 zn) rfl (hS60.pick [1] rfl rfl) (fun w hSw => rl1 (hSw.box 0 rfl 3 rfl)) ?_))))))
 have hP62 : St _ _ w59 ([plE g0 zA zc A0_1 c0_1 zb zg zl zn p0_4 p0_5 p0_6 p0_7 p0_8 p0_9 p0_10 p0_11] ++ [rowE .u8 5 (some ⟨w30.heap.size, 0, none⟩) 1 ([20])]) := hS60.pick [1, 0] rfl rfl
 obtain ⟨b64, hc63, hE52⟩ := bind_in hE52
 try dsimp only at hE52
 refine gdC 48 ⟨some 52, _, _, _, _, _⟩ _ rfl (by kernel_rfl) (pWide_ok N zb zg zl zn p0_4 p0_5 p0_6 p0_7 p0_8 p0_9 p0_10 p0_11 zn g0 zA zc A0_1 c0_1 _ hc63 w59 (hP62.vwA hv0_0) (hP62.vwA hv0_1) hP62.part) ?_
 rintro _ w65 ⟨rfl, hT67⟩
 have hS66 : St _ _ w65 [rowE .u8 5 (some ⟨w30.heap.size, 0, none⟩) 1 ([20]), plE g0 zA zc A0_1 c0_1 zb zg zl zn p0_4 p0_5 p0_6 p0_7 p0_8 p0_9 p0_10 p0_11] := hP62.lendN _ hT67
 refine ⟨(hS66.pick [1] rfl rfl), ?_⟩
 rcases b64 with _ | _
 try dsimp only at hE52
 refine gv1 49 53 (.bool true) rfl (hS66.pick [1] rfl rfl) (gv1 50 54 (.bool true) rfl (hS66.pick [1] rfl rfl) ?_)
 exact gd_to hK55 (by kernel_rfl) ⟨true, selfA_i (by kernel_rfl), (sj hE52), (hS66.pick [1] rfl rfl)⟩
 try dsimp only at hE52
 refine gv1 49 53 (.bool false) rfl (hS66.pick [1] rfl rfl) (gv1 50 54 (.bool false) rfl (hS66.pick [1] rfl rfl) ?_)
 exact gd_to hK55 (by kernel_rfl) ⟨false, selfA_i (by kernel_rfl), (sj hE52), (hS66.pick [1] rfl rfl)⟩
 try dsimp only at hO36
 refine gz1 31 35 rfl hS31 (gz1 32 36 rfl hS31 (gz1 33 37 rfl hS31 (gz1 34 38 rfl hS31 (gz1 35 39 rfl hS31 (gz1 36 40 rfl hS31 (gz1 37 41 rfl hS31 (gz1 38 42 rfl hS31 ?_)))))))
 refine gz1 39 43 rfl hS31 (gz1 40 44 rfl hS31 (gz1 41 45 rfl hS31 (gz1 42 46 rfl hS31 (gz1 43 47 rfl hS31 (gz1 44 48 rfl hS31 (gz1 45 49 rfl hS31 (gz1 46 50 rfl hS31 ?_)))))))
 refine gz1 47 51 rfl hS31 (gz1 48 52 rfl hS31 (gz1 49 53 rfl hS31 (gz1 50 54 rfl hS31 (gz1 51 55 rfl hS31 (gz1 52 56 rfl hS31 (gz1 53 57 rfl hS31 (gz1 54 58 rfl hS31 ?_)))))))
 refine gz1 55 59 rfl hS31 (gz1 56 60 rfl hS31 (gz1 57 61 rfl hS31 (gz1 58 62 rfl hS31 (gz1 59 63 rfl hS31 (gz1 60 64 rfl hS31 (gv1 61 65 (.bool true) rfl hS31 (gv1 62 2 (.int .u8 0) rfl hS31 ?_)))))))
 refine gv1 63 3 (.bool true) rfl hS31 (gd_done (by kernel_rfl) (gx_thenN (hK4 _ _ (gx_ret ?_))))
 obtain rfl := sj hO36
 exact gxF (.tuple #[.int .u8 0, .bool true]) ⟨_, rfl, rfl, hS31⟩
 intro hK38
 refine gv1 19 23 (.bool b10) rfl hS8 ?_
 rcases b10 with _ | _
 try dsimp only at hE35
 refine gz1 20 24 rfl hS8 (gz1 21 25 rfl hS8 (gz1 22 26 rfl hS8 (gz1 23 27 rfl hS8 (gz1 24 28 rfl hS8 (gz1 25 29 rfl hS8 (gz1 26 30 rfl hS8 (gz1 27 31 rfl hS8 ?_)))))))
 refine gz1 28 32 rfl hS8 (gv1 29 33 (.bool false) rfl hS8 ?_)
 exact gd_to hK38 (by kernel_rfl) ⟨false, selfA_i (by kernel_rfl), (sj hE35), hS8⟩
 try dsimp only at hE35
 refine gv1 20 24 (vP g0) rfl hS8 (gv1 21 25 (vP g0) rfl hS8 (gv1 22 26 (vP g0) rfl hS8 (gv1 23 27 (vP g0) rfl hS8 (gv1 24 28 (vP g0) rfl hS8 (gv1 25 29 (vQ g0 4) rfl hS8 (gu1 26 30 (i6 p0_4) rfl hS8 (fun w hSw => rl1 (hSw.box 0 rfl 4 rfl)) ?_))))))
 have hP39 : St _ _ w7 ([plE g0 zA zc A0_1 c0_1 zb zg zl zn p0_4 p0_5 p0_6 p0_7 p0_8 p0_9 p0_10 p0_11] ++ []) := hS8
 obtain ⟨b41, hc40, hE35⟩ := bind_in hE35
 try dsimp only at hE35
 refine gdC 27 ⟨some 31, _, _, _, _, _⟩ _ rfl (by kernel_rfl) (pWide_ok N zb zg zl zn p0_4 p0_5 p0_6 p0_7 p0_8 p0_9 p0_10 p0_11 p0_4 g0 zA zc A0_1 c0_1 _ hc40 w7 (hP39.vwA hv0_0) (hP39.vwA hv0_1) hP39.part) ?_
 rintro _ w42 ⟨rfl, hT44⟩
 have hS43 : St _ _ w42 [plE g0 zA zc A0_1 c0_1 zb zg zl zn p0_4 p0_5 p0_6 p0_7 p0_8 p0_9 p0_10 p0_11] := hP39.lendN _ hT44
 refine ⟨hS43, ?_⟩
 rcases b41 with _ | _
 try dsimp only at hE35
 refine gv1 28 32 (.bool true) rfl hS43 (gv1 29 33 (.bool true) rfl hS43 ?_)
 exact gd_to hK38 (by kernel_rfl) ⟨true, selfA_i (by kernel_rfl), (sj hE35), hS43⟩
 try dsimp only at hE35
 refine gv1 28 32 (.bool false) rfl hS43 (gv1 29 33 (.bool false) rfl hS43 ?_)
 exact gd_to hK38 (by kernel_rfl) ⟨false, selfA_i (by kernel_rfl), (sj hE35), hS43⟩
 intro hK15
 have hP16 : St _ _ w5 ([plE g0 zA zc A0_1 c0_1 zb zg zl zn p0_4 p0_5 p0_6 p0_7 p0_8 p0_9 p0_10 p0_11] ++ []) := hS6
 obtain ⟨b18, hc17, hE12⟩ := bind_in hE12
 try dsimp only at hE12
 refine gdC 7 ⟨some 11, _, _, _, _, _⟩ _ rfl (by kernel_rfl) (pOfWord_ok N zb zg zl zn p0_4 p0_5 p0_6 p0_7 p0_8 p0_9 p0_10 p0_11 zn g0 zA zc A0_1 c0_1 _ hc17 w5 (hP16.vwA hv0_0) (hP16.vwA hv0_1) hP16.part) ?_
 rintro _ w19 ⟨rfl, hT21⟩
 have hS20 : St _ _ w19 [plE g0 zA zc A0_1 c0_1 zb zg zl zn p0_4 p0_5 p0_6 p0_7 p0_8 p0_9 p0_10 p0_11] := hP16.lendN _ hT21
 refine ⟨hS20, gv1 8 12 (.bool b18) rfl hS20 ?_⟩
 rcases b18 with _ | _
 try dsimp only at hE12
 refine gz1 9 13 rfl hS20 (gz1 10 14 rfl hS20 (gz1 11 15 rfl hS20 (gz1 12 16 rfl hS20 (gz1 13 17 rfl hS20 (gz1 14 18 rfl hS20 (gz1 15 19 rfl hS20 (gz1 16 20 rfl hS20 ?_)))))))
 refine gz1 17 21 rfl hS20 (gv1 18 22 (.bool false) rfl hS20 ?_)
 exact gd_to hK15 (by kernel_rfl) ⟨false, selfA_i (by kernel_rfl), (sj hE12), hS20⟩
 try dsimp only at hE12
 refine gv1 9 13 (vP g0) rfl hS20 (gv1 10 14 (vP g0) rfl hS20 (gv1 11 15 (vP g0) rfl hS20 (gv1 12 16 (vP g0) rfl hS20 (gv1 13 17 (vP g0) rfl hS20 (gv1 14 18 (vQ g0 4) rfl hS20 (gu1 15 19 (i6 p0_4) rfl hS20 (fun w hSw => rl1 (hSw.box 0 rfl 4 rfl)) (gdR 16 ⟨some 20, _, _, _, _, _⟩ rfl (st_made .u8 5 [19] hS20 (by show 1 ≤ 1000000000; decide) (by kernel_rfl)) ?_)))))))
 rintro _ w22 ⟨rfl, hS23⟩
 have hS23 : St _ _ w22 [plE g0 zA zc A0_1 c0_1 zb zg zl zn p0_4 p0_5 p0_6 p0_7 p0_8 p0_9 p0_10 p0_11, rowE .u8 5 (some ⟨w19.heap.size, 0, none⟩) 1 ([19])] := hS23
 refine ⟨(hS23.pick [0] rfl rfl), ?_⟩
 have hP24 : St _ _ w22 ([plE g0 zA zc A0_1 c0_1 zb zg zl zn p0_4 p0_5 p0_6 p0_7 p0_8 p0_9 p0_10 p0_11] ++ [rowE .u8 5 (some ⟨w19.heap.size, 0, none⟩) 1 ([19])]) := hS23
 obtain ⟨b26, hc25, hE12⟩ := bind_in hE12
 try dsimp only at hE12
 refine gdC 17 ⟨some 21, _, _, _, _, _⟩ _ rfl (by kernel_rfl) (pIs_ok N zb zg zl zn p0_4 p0_5 p0_6 p0_7 p0_8 p0_9 p0_10 p0_11 p0_4 ([19]) g0 zA zc A0_1 c0_1 (some ⟨w19.heap.size, 0, none⟩) 1 _ hc25 w22 (hP24.vwA hv0_0) (hP24.vwA hv0_1) (hP24.vwB 0 rfl) hP24.part) ?_
 rintro _ w27 ⟨rfl, hT29⟩
 have hS28 : St _ _ w27 [rowE .u8 5 (some ⟨w19.heap.size, 0, none⟩) 1 ([19]), plE g0 zA zc A0_1 c0_1 zb zg zl zn p0_4 p0_5 p0_6 p0_7 p0_8 p0_9 p0_10 p0_11] := hP24.lendN _ hT29
 refine ⟨(hS28.pick [1] rfl rfl), gv1 18 22 (.bool b26) rfl (hS28.pick [1] rfl rfl) ?_⟩
 exact gd_to hK15 (by kernel_rfl) ⟨b26, selfA_i (by kernel_rfl), (sj hE12), (hS28.pick [1] rfl rfl)⟩
end Go.Proofs.YtdbimchiecdkoaaGreat

namespace Go.Proofs.YtdbimchiecdkoaaGreat
open Go Go.RowKit
set_option maxRecDepth 100000
set_option maxHeartbeats 4000000
set_option linter.unusedVariables false
def qWithinFlag (N : Nat) (zb : List Int) (zg : List Int) (zl : Int) (zn : Int) (p0_4 : Int) (p0_5 : Int) (p0_6 : Int) (p0_7 : Int) (p0_8 : Int) (p0_9 : Bool) (p0_10 : Bool) (p0_11 : Bool) : Option (Int × Bool) :=
 (match p0_11 with | true => ((pIs N zb zg zl zn p0_4 p0_5 p0_6 p0_7 p0_8 p0_9 p0_10 true p0_4 ([32])).bind fun b11 => some (0, b11)) | false => some (0, false))
def qWithinFlag_R (zb : List Int) (zg : List Int) (zl : Int) (zn : Int) (p0_4 : Int) (p0_5 : Int) (p0_6 : Int) (p0_7 : Int) (p0_8 : Int) (p0_9 : Bool) (p0_10 : Bool) (p0_11 : Bool) (g0 : Nat) (zA : Option Addr) (zc : Nat) (A0_1 : Option Addr) (c0_1 : Nat) (r : Int × Bool) (w0 : World) (v : Value) (w : World) : Prop := v = .tuple #[.int .u8 r.1, .bool r.2] ∧ St (foots [plE g0 zA zc A0_1 c0_1 zb zg zl zn p0_4 p0_5 p0_6 p0_7 p0_8 p0_9 p0_10 p0_11]) w0 w [plE g0 zA zc A0_1 c0_1 zb zg zl zn p0_4 p0_5 p0_6 p0_7 p0_8 p0_9 p0_10 p0_11]
theorem qWithinFlag_ok (N : Nat) (zb : List Int) (zg : List Int) (zl : Int) (zn : Int) (p0_4 : Int) (p0_5 : Int) (p0_6 : Int) (p0_7 : Int) (p0_8 : Int) (p0_9 : Bool) (p0_10 : Bool) (p0_11 : Bool) (g0 : Nat) (zA : Option Addr) (zc : Nat) (A0_1 : Option Addr) (c0_1 : Nat) (r : Int × Bool) (hF : qWithinFlag N zb zg zl zn p0_4 p0_5 p0_6 p0_7 p0_8 p0_9 p0_10 p0_11 = some r) (w0 : World) (hv0_0 : Vw (foots [plE g0 zA zc A0_1 c0_1 zb zg zl zn p0_4 p0_5 p0_6 p0_7 p0_8 p0_9 p0_10 p0_11]) .i32 w0 zA zc zb) (hv0_1 : Vw (foots [plE g0 zA zc A0_1 c0_1 zb zg zl zn p0_4 p0_5 p0_6 p0_7 p0_8 p0_9 p0_10 p0_11]) .u8 w0 A0_1 c0_1 zg) (hl : St (foots [plE g0 zA zc A0_1 c0_1 zb zg zl zn p0_4 p0_5 p0_6 p0_7 p0_8 p0_9 p0_10 p0_11]) w0 w0 [plE g0 zA zc A0_1 c0_1 zb zg zl zn p0_4 p0_5 p0_6 p0_7 p0_8 p0_9 p0_10 p0_11]) :
  Calls Tryz.prog 62 #[.pointer (some ⟨g0, 0, none⟩)] w0 fun e w => ∃ v, e = .returned v ∧ qWithinFlag_R zb zg zl zn p0_4 p0_5 p0_6 p0_7 p0_8 p0_9 p0_10 p0_11 g0 zA zc A0_1 c0_1 r w0 v w := by
 have hS0 := hl
 unfold qWithinFlag at hF
 refine calls_of Tryz.func62 rfl ⟨((vP g0) :: un 18 ([])).toArray, []⟩ (by kernel_rfl) (gx_seq (fun K1 hK2 => gx_region (gx_k (.int .u8 0) w0 (gx_k (.bool false) w0 (gx_nil (gx_thenN (hK2 _ _ (gx_seq (fun K3 hK4 => ?_)))))))))
 refine gdst (fun w => St (foots [plE g0 zA zc A0_1 c0_1 zb zg zl zn p0_4 p0_5 p0_6 p0_7 p0_8 p0_9 p0_10 p0_11]) w0 w [plE g0 zA zc A0_1 c0_1 zb zg zl zn p0_4 p0_5 p0_6 p0_7 p0_8 p0_9 p0_10 p0_11]) 17 ?_
 have hS6 := hS0.drew
 generalize w0.drew = w5 at hS6 ⊢
 refine gv1 0 4 (vP g0) rfl hS6 (gv1 1 5 (vP g0) rfl hS6 (gv1 2 6 (vQ g0 11) rfl hS6 (gu1 3 7 (.bool p0_11) rfl hS6 (fun w hSw => rl1 (hSw.box 0 rfl 11 rfl)) (gv1 4 8 (.bool p0_11) rfl hS6 ?_))))
 rcases p0_11 with _ | _
 try dsimp only at hF
 refine gz1 5 9 rfl hS6 (gz1 6 10 rfl hS6 (gz1 7 11 rfl hS6 (gz1 8 12 rfl hS6 (gz1 9 13 rfl hS6 (gz1 10 14 rfl hS6 (gz1 11 15 rfl hS6 (gz1 12 16 rfl hS6 ?_)))))))
 refine gz1 13 17 rfl hS6 (gv1 14 18 (.bool false) rfl hS6 (gv1 15 2 (.int .u8 0) rfl hS6 (gv1 16 3 (.bool false) rfl hS6 (gd_done (by kernel_rfl) (gx_thenN (hK4 _ _ (gx_ret ?_)))))))
 obtain rfl := sj hF
 exact gxF (.tuple #[.int .u8 0, .bool false]) ⟨_, rfl, rfl, hS6⟩
 try dsimp only at hF
 refine gv1 5 9 (vP g0) rfl hS6 (gv1 6 10 (vP g0) rfl hS6 (gv1 7 11 (vP g0) rfl hS6 (gv1 8 12 (vP g0) rfl hS6 (gv1 9 13 (vP g0) rfl hS6 (gv1 10 14 (vQ g0 4) rfl hS6 (gu1 11 15 (i6 p0_4) rfl hS6 (fun w hSw => rl1 (hSw.box 0 rfl 4 rfl)) (gdR 12 ⟨some 16, _, _, _, _, _⟩ rfl (st_made .u8 5 [32] hS6 (by show 1 ≤ 1000000000; decide) (by kernel_rfl)) ?_)))))))
 rintro _ w7 ⟨rfl, hS8⟩
 have hS8 : St _ _ w7 [boxE g0 [.slice zA zb.length zc, .slice A0_1 zg.length c0_1, i6 zl, i6 zn, i6 p0_4, i6 p0_5, i6 p0_6, i6 p0_7, i6 p0_8, .bool p0_9, .bool p0_10, .bool true] 42, rowE .u8 5 (some ⟨w5.heap.size, 0, none⟩) 1 ([32])] := hS8
 refine ⟨(hS8.pick [0] rfl rfl), ?_⟩
 have hP9 : St _ _ w7 ([boxE g0 [.slice zA zb.length zc, .slice A0_1 zg.length c0_1, i6 zl, i6 zn, i6 p0_4, i6 p0_5, i6 p0_6, i6 p0_7, i6 p0_8, .bool p0_9, .bool p0_10, .bool true] 42] ++ [rowE .u8 5 (some ⟨w5.heap.size, 0, none⟩) 1 ([32])]) := hS8
 obtain ⟨b11, hc10, hF⟩ := bind_in hF
 try dsimp only at hF
 refine gdC 13 ⟨some 17, _, _, _, _, _⟩ _ rfl (by kernel_rfl) (pIs_ok N zb zg zl zn p0_4 p0_5 p0_6 p0_7 p0_8 p0_9 p0_10 true p0_4 ([32]) g0 zA zc A0_1 c0_1 (some ⟨w5.heap.size, 0, none⟩) 1 _ hc10 w7 (hP9.vwA hv0_0) (hP9.vwA hv0_1) (hP9.vwB 0 rfl) hP9.part) ?_
 rintro _ w12 ⟨rfl, hT14⟩
 have hS13 : St _ _ w12 [rowE .u8 5 (some ⟨w5.heap.size, 0, none⟩) 1 ([32]), boxE g0 [.slice zA zb.length zc, .slice A0_1 zg.length c0_1, i6 zl, i6 zn, i6 p0_4, i6 p0_5, i6 p0_6, i6 p0_7, i6 p0_8, .bool p0_9, .bool p0_10, .bool true] 42] := hP9.lendN _ hT14
 refine ⟨(hS13.pick [1] rfl rfl), gv1 14 18 (.bool b11) rfl (hS13.pick [1] rfl rfl) (gv1 15 2 (.int .u8 0) rfl (hS13.pick [1] rfl rfl) (gv1 16 3 (.bool b11) rfl (hS13.pick [1] rfl rfl) (gd_done (by kernel_rfl) (gx_thenN (hK4 _ _ (gx_ret ?_))))))⟩
 obtain rfl := sj hF
 exact gxF (.tuple #[.int .u8 0, .bool b11]) ⟨_, rfl, rfl, (hS13.pick [1] rfl rfl)⟩
def qWithinPicture (N : Nat) (zb : List Int) (zg : List Int) (zl : Int) (zn : Int) (p0_4 : Int) (p0_5 : Int) (p0_6 : Int) (p0_7 : Int) (p0_8 : Int) (p0_9 : Bool) (p0_10 : Bool) (p0_11 : Bool) : Option (Int × Bool) :=
 ((pIs N zb zg zl zn p0_4 p0_5 p0_6 p0_7 p0_8 p0_9 p0_10 p0_11 zn ([30])).bind fun b11 => (match b11 with | true => ((pIs N zb zg zl zn p0_4 p0_5 p0_6 p0_7 p0_8 p0_9 p0_10 p0_11 p0_4 ([31])).bind fun b19 => some (0, b19)) | false => some (0, false)))
def qWithinPicture_R (zb : List Int) (zg : List Int) (zl : Int) (zn : Int) (p0_4 : Int) (p0_5 : Int) (p0_6 : Int) (p0_7 : Int) (p0_8 : Int) (p0_9 : Bool) (p0_10 : Bool) (p0_11 : Bool) (g0 : Nat) (zA : Option Addr) (zc : Nat) (A0_1 : Option Addr) (c0_1 : Nat) (r : Int × Bool) (w0 : World) (v : Value) (w : World) : Prop := v = .tuple #[.int .u8 r.1, .bool r.2] ∧ St (foots [plE g0 zA zc A0_1 c0_1 zb zg zl zn p0_4 p0_5 p0_6 p0_7 p0_8 p0_9 p0_10 p0_11]) w0 w [plE g0 zA zc A0_1 c0_1 zb zg zl zn p0_4 p0_5 p0_6 p0_7 p0_8 p0_9 p0_10 p0_11]
theorem qWithinPicture_ok (N : Nat) (zb : List Int) (zg : List Int) (zl : Int) (zn : Int) (p0_4 : Int) (p0_5 : Int) (p0_6 : Int) (p0_7 : Int) (p0_8 : Int) (p0_9 : Bool) (p0_10 : Bool) (p0_11 : Bool) (g0 : Nat) (zA : Option Addr) (zc : Nat) (A0_1 : Option Addr) (c0_1 : Nat) (r : Int × Bool) (hF : qWithinPicture N zb zg zl zn p0_4 p0_5 p0_6 p0_7 p0_8 p0_9 p0_10 p0_11 = some r) (w0 : World) (hv0_0 : Vw (foots [plE g0 zA zc A0_1 c0_1 zb zg zl zn p0_4 p0_5 p0_6 p0_7 p0_8 p0_9 p0_10 p0_11]) .i32 w0 zA zc zb) (hv0_1 : Vw (foots [plE g0 zA zc A0_1 c0_1 zb zg zl zn p0_4 p0_5 p0_6 p0_7 p0_8 p0_9 p0_10 p0_11]) .u8 w0 A0_1 c0_1 zg) (hl : St (foots [plE g0 zA zc A0_1 c0_1 zb zg zl zn p0_4 p0_5 p0_6 p0_7 p0_8 p0_9 p0_10 p0_11]) w0 w0 [plE g0 zA zc A0_1 c0_1 zb zg zl zn p0_4 p0_5 p0_6 p0_7 p0_8 p0_9 p0_10 p0_11]) :
  Calls Tryz.prog 63 #[.pointer (some ⟨g0, 0, none⟩)] w0 fun e w => ∃ v, e = .returned v ∧ qWithinPicture_R zb zg zl zn p0_4 p0_5 p0_6 p0_7 p0_8 p0_9 p0_10 p0_11 g0 zA zc A0_1 c0_1 r w0 v w := by
 have hS0 := hl
 unfold qWithinPicture at hF
 refine calls_of Tryz.func63 rfl ⟨((vP g0) :: un 23 ([])).toArray, []⟩ (by kernel_rfl) (gx_seq (fun K1 hK2 => gx_region (gx_k (.int .u8 0) w0 (gx_k (.bool false) w0 (gx_nil (gx_thenN (hK2 _ _ (gx_seq (fun K3 hK4 => ?_)))))))))
 refine gdst (fun w => St (foots [plE g0 zA zc A0_1 c0_1 zb zg zl zn p0_4 p0_5 p0_6 p0_7 p0_8 p0_9 p0_10 p0_11]) w0 w [plE g0 zA zc A0_1 c0_1 zb zg zl zn p0_4 p0_5 p0_6 p0_7 p0_8 p0_9 p0_10 p0_11]) 22 ?_
 have hS6 := hS0.drew
 generalize w0.drew = w5 at hS6 ⊢
 refine gv1 0 4 (vP g0) rfl hS6 (gv1 1 5 (vP g0) rfl hS6 (gv1 2 6 (vP g0) rfl hS6 (gv1 3 7 (vP g0) rfl hS6 (gv1 4 8 (vP g0) rfl hS6 (gv1 5 9 (vQ g0 3) rfl hS6 (gu1 6 10 (i6 zn) rfl hS6 (fun w hSw => rl1 (hSw.box 0 rfl 3 rfl)) (gdR 7 ⟨some 11, _, _, _, _, _⟩ rfl (st_made .u8 5 [30] hS6 (by show 1 ≤ 1000000000; decide) (by kernel_rfl)) ?_)))))))
 rintro _ w7 ⟨rfl, hS8⟩
 have hS8 : St _ _ w7 [plE g0 zA zc A0_1 c0_1 zb zg zl zn p0_4 p0_5 p0_6 p0_7 p0_8 p0_9 p0_10 p0_11, rowE .u8 5 (some ⟨w5.heap.size, 0, none⟩) 1 ([30])] := hS8
 refine ⟨(hS8.pick [0] rfl rfl), ?_⟩
 have hP9 : St _ _ w7 ([plE g0 zA zc A0_1 c0_1 zb zg zl zn p0_4 p0_5 p0_6 p0_7 p0_8 p0_9 p0_10 p0_11] ++ [rowE .u8 5 (some ⟨w5.heap.size, 0, none⟩) 1 ([30])]) := hS8
 obtain ⟨b11, hc10, hF⟩ := bind_in hF
 try dsimp only at hF
 refine gdC 8 ⟨some 12, _, _, _, _, _⟩ _ rfl (by kernel_rfl) (pIs_ok N zb zg zl zn p0_4 p0_5 p0_6 p0_7 p0_8 p0_9 p0_10 p0_11 zn ([30]) g0 zA zc A0_1 c0_1 (some ⟨w5.heap.size, 0, none⟩) 1 _ hc10 w7 (hP9.vwA hv0_0) (hP9.vwA hv0_1) (hP9.vwB 0 rfl) hP9.part) ?_
 rintro _ w12 ⟨rfl, hT14⟩
 have hS13 : St _ _ w12 [rowE .u8 5 (some ⟨w5.heap.size, 0, none⟩) 1 ([30]), plE g0 zA zc A0_1 c0_1 zb zg zl zn p0_4 p0_5 p0_6 p0_7 p0_8 p0_9 p0_10 p0_11] := hP9.lendN _ hT14
 refine ⟨(hS13.pick [1] rfl rfl), gv1 9 13 (.bool b11) rfl (hS13.pick [1] rfl rfl) ?_⟩
 rcases b11 with _ | _
 try dsimp only at hF
 refine gz1 10 14 rfl (hS13.pick [1] rfl rfl) (gz1 11 15 rfl (hS13.pick [1] rfl rfl) (gz1 12 16 rfl (hS13.pick [1] rfl rfl) (gz1 13 17 rfl (hS13.pick [1] rfl rfl) (gz1 14 18 rfl (hS13.pick [1] rfl rfl) (gz1 15 19 rfl (hS13.pick [1] rfl rfl) (gz1 16 20 rfl (hS13.pick [1] rfl rfl) (gz1 17 21 rfl (hS13.pick [1] rfl rfl) ?_)))))))
 refine gz1 18 22 rfl (hS13.pick [1] rfl rfl) (gv1 19 23 (.bool false) rfl (hS13.pick [1] rfl rfl) (gv1 20 2 (.int .u8 0) rfl (hS13.pick [1] rfl rfl) (gv1 21 3 (.bool false) rfl (hS13.pick [1] rfl rfl) (gd_done (by kernel_rfl) (gx_thenN (hK4 _ _ (gx_ret ?_)))))))
 obtain rfl := sj hF
 exact gxF (.tuple #[.int .u8 0, .bool false]) ⟨_, rfl, rfl, (hS13.pick [1] rfl rfl)⟩
 try dsimp only at hF
 refine gv1 10 14 (vP g0) rfl (hS13.pick [1] rfl rfl) (gv1 11 15 (vP g0) rfl (hS13.pick [1] rfl rfl) (gv1 12 16 (vP g0) rfl (hS13.pick [1] rfl rfl) (gv1 13 17 (vP g0) rfl (hS13.pick [1] rfl rfl) (gv1 14 18 (vP g0) rfl (hS13.pick [1] rfl rfl) (gv1 15 19 (vQ g0 4) rfl (hS13.pick [1] rfl rfl) (gu1 16 20 (i6 p0_4) rfl (hS13.pick [1] rfl rfl) (fun w hSw => rl1 (hSw.box 0 rfl 4 rfl)) (gdR 17 ⟨some 21, _, _, _, _, _⟩ rfl (st_made .u8 5 [31] hS13 (by show 1 ≤ 1000000000; decide) (by kernel_rfl)) ?_)))))))
 rintro _ w15 ⟨rfl, hS16⟩
 have hS16 : St _ _ w15 [rowE .u8 5 (some ⟨w5.heap.size, 0, none⟩) 1 ([30]), plE g0 zA zc A0_1 c0_1 zb zg zl zn p0_4 p0_5 p0_6 p0_7 p0_8 p0_9 p0_10 p0_11, rowE .u8 5 (some ⟨w12.heap.size, 0, none⟩) 1 ([31])] := hS16
 refine ⟨(hS16.pick [1] rfl rfl), ?_⟩
 have hP17 : St _ _ w15 ([plE g0 zA zc A0_1 c0_1 zb zg zl zn p0_4 p0_5 p0_6 p0_7 p0_8 p0_9 p0_10 p0_11] ++ [rowE .u8 5 (some ⟨w5.heap.size, 0, none⟩) 1 ([30]), rowE .u8 5 (some ⟨w12.heap.size, 0, none⟩) 1 ([31])]) := hS16.pick [1, 0, 2] rfl rfl
 obtain ⟨b19, hc18, hF⟩ := bind_in hF
 try dsimp only at hF
 refine gdC 18 ⟨some 22, _, _, _, _, _⟩ _ rfl (by kernel_rfl) (pIs_ok N zb zg zl zn p0_4 p0_5 p0_6 p0_7 p0_8 p0_9 p0_10 p0_11 p0_4 ([31]) g0 zA zc A0_1 c0_1 (some ⟨w12.heap.size, 0, none⟩) 1 _ hc18 w15 (hP17.vwA hv0_0) (hP17.vwA hv0_1) (hP17.vwB 1 rfl) hP17.part) ?_
 rintro _ w20 ⟨rfl, hT22⟩
 have hS21 : St _ _ w20 [rowE .u8 5 (some ⟨w5.heap.size, 0, none⟩) 1 ([30]), rowE .u8 5 (some ⟨w12.heap.size, 0, none⟩) 1 ([31]), plE g0 zA zc A0_1 c0_1 zb zg zl zn p0_4 p0_5 p0_6 p0_7 p0_8 p0_9 p0_10 p0_11] := hP17.lendN _ hT22
 refine ⟨(hS21.pick [2] rfl rfl), gv1 19 23 (.bool b19) rfl (hS21.pick [2] rfl rfl) (gv1 20 2 (.int .u8 0) rfl (hS21.pick [2] rfl rfl) (gv1 21 3 (.bool b19) rfl (hS21.pick [2] rfl rfl) (gd_done (by kernel_rfl) (gx_thenN (hK4 _ _ (gx_ret ?_))))))⟩
 obtain rfl := sj hF
 exact gxF (.tuple #[.int .u8 0, .bool b19]) ⟨_, rfl, rfl, (hS21.pick [2] rfl rfl)⟩
def qElsewhere (_N : Nat) (_p0_0 : List Int) (_p0_1 : List Int) (_p0_2 : Int) (_p0_3 : Int) (_p0_4 : Int) (_p0_5 : Int) (_p0_6 : Int) (_p0_7 : Int) (_p0_8 : Int) (_p0_9 : Bool) (_p0_10 : Bool) (_p0_11 : Bool) : Option (Int × Bool) :=
 some (1, true)
def qElsewhere_R (zb : List Int) (zg : List Int) (zl : Int) (zn : Int) (p0_4 : Int) (p0_5 : Int) (p0_6 : Int) (p0_7 : Int) (p0_8 : Int) (p0_9 : Bool) (p0_10 : Bool) (p0_11 : Bool) (g0 : Nat) (zA : Option Addr) (zc : Nat) (A0_1 : Option Addr) (c0_1 : Nat) (r : Int × Bool) (w0 : World) (v : Value) (w : World) : Prop := v = .tuple #[.int .u8 r.1, .bool r.2] ∧ St (foots [plE g0 zA zc A0_1 c0_1 zb zg zl zn p0_4 p0_5 p0_6 p0_7 p0_8 p0_9 p0_10 p0_11]) w0 w [plE g0 zA zc A0_1 c0_1 zb zg zl zn p0_4 p0_5 p0_6 p0_7 p0_8 p0_9 p0_10 p0_11]
theorem qElsewhere_ok (N : Nat) (zb : List Int) (zg : List Int) (zl : Int) (zn : Int) (p0_4 : Int) (p0_5 : Int) (p0_6 : Int) (p0_7 : Int) (p0_8 : Int) (p0_9 : Bool) (p0_10 : Bool) (p0_11 : Bool) (g0 : Nat) (zA : Option Addr) (zc : Nat) (A0_1 : Option Addr) (c0_1 : Nat) (r : Int × Bool) (hF : qElsewhere N zb zg zl zn p0_4 p0_5 p0_6 p0_7 p0_8 p0_9 p0_10 p0_11 = some r) (w0 : World) (_hv0_0 : Vw (foots [plE g0 zA zc A0_1 c0_1 zb zg zl zn p0_4 p0_5 p0_6 p0_7 p0_8 p0_9 p0_10 p0_11]) .i32 w0 zA zc zb) (_hv0_1 : Vw (foots [plE g0 zA zc A0_1 c0_1 zb zg zl zn p0_4 p0_5 p0_6 p0_7 p0_8 p0_9 p0_10 p0_11]) .u8 w0 A0_1 c0_1 zg) (hl : St (foots [plE g0 zA zc A0_1 c0_1 zb zg zl zn p0_4 p0_5 p0_6 p0_7 p0_8 p0_9 p0_10 p0_11]) w0 w0 [plE g0 zA zc A0_1 c0_1 zb zg zl zn p0_4 p0_5 p0_6 p0_7 p0_8 p0_9 p0_10 p0_11]) :
  Calls Tryz.prog 64 #[.pointer (some ⟨g0, 0, none⟩)] w0 fun e w => ∃ v, e = .returned v ∧ qElsewhere_R zb zg zl zn p0_4 p0_5 p0_6 p0_7 p0_8 p0_9 p0_10 p0_11 g0 zA zc A0_1 c0_1 r w0 v w := by
 have hS0 := hl
 unfold qElsewhere at hF
 refine calls_of Tryz.func64 rfl ⟨((vP g0) :: un 3 ([])).toArray, []⟩ (by kernel_rfl) (gx_seq (fun K1 hK2 => gx_region (gx_k (.int .u8 0) w0 (gx_k (.bool false) w0 (gx_nil (gx_thenN (hK2 _ _ (gx_seq (fun K3 hK4 => ?_)))))))))
 refine gx_region (gx_k (.int .u8 1) w0 (gx_k (.bool true) w0 (gx_nil (gx_thenN (hK4 _ _ (gx_ret ?_))))))
 obtain rfl := sj hF
 exact gxF (.tuple #[.int .u8 1, .bool true]) ⟨_, rfl, rfl, hS0⟩
end Go.Proofs.YtdbimchiecdkoaaGreat
