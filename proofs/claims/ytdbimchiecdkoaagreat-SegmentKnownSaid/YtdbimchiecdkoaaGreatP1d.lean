/-
  The rules, walked.
-/
import Derived.Test.YtdbimchiecdkoaaGreatPJ
namespace Go.Proofs.YtdbimchiecdkoaaGreat
open Go Go.RowKit
set_option maxRecDepth 100000
set_option maxHeartbeats 4000000
set_option linter.unusedVariables false
def qBesideObject (N : Nat) (zb : List Int) (zg : List Int) (zl : Int) (zn : Int) (p0_4 : Int) (p0_5 : Int) (p0_6 : Int) (p0_7 : Int) (p0_8 : Int) (p0_9 : Bool) (p0_10 : Bool) (p0_11 : Bool) : Option (Int × Bool) :=
 ((pIs N zb zg zl zn p0_4 p0_5 p0_6 p0_7 p0_8 p0_9 p0_10 p0_11 zn ([15])).bind fun b11 => (match b11 with | true => some (1, true) | false => ((pIs N zb zg zl zn p0_4 p0_5 p0_6 p0_7 p0_8 p0_9 p0_10 p0_11 p0_4 ([15])).bind fun b19 => some (1, b19))))
def qBesideObject_R (zb : List Int) (zg : List Int) (zl : Int) (zn : Int) (p0_4 : Int) (p0_5 : Int) (p0_6 : Int) (p0_7 : Int) (p0_8 : Int) (p0_9 : Bool) (p0_10 : Bool) (p0_11 : Bool) (g0 : Nat) (zA : Option Addr) (zc : Nat) (A0_1 : Option Addr) (c0_1 : Nat) (r : Int × Bool) (w0 : World) (v : Value) (w : World) : Prop := v = .tuple #[.int .u8 r.1, .bool r.2] ∧ St (foots [plE g0 zA zc A0_1 c0_1 zb zg zl zn p0_4 p0_5 p0_6 p0_7 p0_8 p0_9 p0_10 p0_11]) w0 w [plE g0 zA zc A0_1 c0_1 zb zg zl zn p0_4 p0_5 p0_6 p0_7 p0_8 p0_9 p0_10 p0_11]
theorem qBesideObject_ok (N : Nat) (zb : List Int) (zg : List Int) (zl : Int) (zn : Int) (p0_4 : Int) (p0_5 : Int) (p0_6 : Int) (p0_7 : Int) (p0_8 : Int) (p0_9 : Bool) (p0_10 : Bool) (p0_11 : Bool) (g0 : Nat) (zA : Option Addr) (zc : Nat) (A0_1 : Option Addr) (c0_1 : Nat) (r : Int × Bool) (hF : qBesideObject N zb zg zl zn p0_4 p0_5 p0_6 p0_7 p0_8 p0_9 p0_10 p0_11 = some r) (w0 : World) (hv0_0 : Vw (foots [plE g0 zA zc A0_1 c0_1 zb zg zl zn p0_4 p0_5 p0_6 p0_7 p0_8 p0_9 p0_10 p0_11]) .i32 w0 zA zc zb) (hv0_1 : Vw (foots [plE g0 zA zc A0_1 c0_1 zb zg zl zn p0_4 p0_5 p0_6 p0_7 p0_8 p0_9 p0_10 p0_11]) .u8 w0 A0_1 c0_1 zg) (hl : St (foots [plE g0 zA zc A0_1 c0_1 zb zg zl zn p0_4 p0_5 p0_6 p0_7 p0_8 p0_9 p0_10 p0_11]) w0 w0 [plE g0 zA zc A0_1 c0_1 zb zg zl zn p0_4 p0_5 p0_6 p0_7 p0_8 p0_9 p0_10 p0_11]) :
  Calls Tryz.prog 44 #[.pointer (some ⟨g0, 0, none⟩)] w0 fun e w => ∃ v, e = .returned v ∧ qBesideObject_R zb zg zl zn p0_4 p0_5 p0_6 p0_7 p0_8 p0_9 p0_10 p0_11 g0 zA zc A0_1 c0_1 r w0 v w := by
 have hS0 := hl
 unfold qBesideObject at hF
 refine calls_of Tryz.func44 rfl ⟨((vP g0) :: un 23 ([])).toArray, []⟩ (by kernel_rfl) (gx_seq (fun K1 hK2 => gx_region (gx_k (.int .u8 0) w0 (gx_k (.bool false) w0 (gx_nil (gx_thenN (hK2 _ _ (gx_seq (fun K3 hK4 => ?_)))))))))
 refine gdst (fun w => St (foots [plE g0 zA zc A0_1 c0_1 zb zg zl zn p0_4 p0_5 p0_6 p0_7 p0_8 p0_9 p0_10 p0_11]) w0 w [plE g0 zA zc A0_1 c0_1 zb zg zl zn p0_4 p0_5 p0_6 p0_7 p0_8 p0_9 p0_10 p0_11]) 22 ?_
 have hS6 := hS0.drew
 generalize w0.drew = w5 at hS6 ⊢
 refine gv1 0 4 (vP g0) rfl hS6 (gv1 1 5 (vP g0) rfl hS6 (gv1 2 6 (vP g0) rfl hS6 (gv1 3 7 (vP g0) rfl hS6 (gv1 4 8 (vP g0) rfl hS6 (gv1 5 9 (vQ g0 3) rfl hS6 (gu1 6 10 (i6 zn) rfl hS6 (fun w hSw => rl1 (hSw.box 0 rfl 3 rfl)) (gdR 7 ⟨some 11, _, _, _, _, _⟩ rfl (st_made .u8 5 [15] hS6 (by show 1 ≤ 1000000000; decide) (by kernel_rfl)) ?_)))))))
 rintro _ w7 ⟨rfl, hS8⟩
 have hS8 : St _ _ w7 [plE g0 zA zc A0_1 c0_1 zb zg zl zn p0_4 p0_5 p0_6 p0_7 p0_8 p0_9 p0_10 p0_11, rowE .u8 5 (some ⟨w5.heap.size, 0, none⟩) 1 ([15])] := hS8
 refine ⟨(hS8.pick [0] rfl rfl), ?_⟩
 have hP9 : St _ _ w7 ([plE g0 zA zc A0_1 c0_1 zb zg zl zn p0_4 p0_5 p0_6 p0_7 p0_8 p0_9 p0_10 p0_11] ++ [rowE .u8 5 (some ⟨w5.heap.size, 0, none⟩) 1 ([15])]) := hS8
 obtain ⟨b11, hc10, hF⟩ := bind_in hF
 try dsimp only at hF
 refine gdC 8 ⟨some 12, _, _, _, _, _⟩ _ rfl (by kernel_rfl) (pIs_ok N zb zg zl zn p0_4 p0_5 p0_6 p0_7 p0_8 p0_9 p0_10 p0_11 zn ([15]) g0 zA zc A0_1 c0_1 (some ⟨w5.heap.size, 0, none⟩) 1 _ hc10 w7 (hP9.vwA hv0_0) (hP9.vwA hv0_1) (hP9.vwB 0 rfl) hP9.part) ?_
 rintro _ w12 ⟨rfl, hT14⟩
 have hS13 : St _ _ w12 [rowE .u8 5 (some ⟨w5.heap.size, 0, none⟩) 1 ([15]), plE g0 zA zc A0_1 c0_1 zb zg zl zn p0_4 p0_5 p0_6 p0_7 p0_8 p0_9 p0_10 p0_11] := hP9.lendN _ hT14
 refine ⟨(hS13.pick [1] rfl rfl), gv1 9 13 (.bool b11) rfl (hS13.pick [1] rfl rfl) ?_⟩
 rcases b11 with _ | _
 try dsimp only at hF
 refine gv1 10 14 (vP g0) rfl (hS13.pick [1] rfl rfl) (gv1 11 15 (vP g0) rfl (hS13.pick [1] rfl rfl) (gv1 12 16 (vP g0) rfl (hS13.pick [1] rfl rfl) (gv1 13 17 (vP g0) rfl (hS13.pick [1] rfl rfl) (gv1 14 18 (vP g0) rfl (hS13.pick [1] rfl rfl) (gv1 15 19 (vQ g0 4) rfl (hS13.pick [1] rfl rfl) (gu1 16 20 (i6 p0_4) rfl (hS13.pick [1] rfl rfl) (fun w hSw => rl1 (hSw.box 0 rfl 4 rfl)) (gdR 17 ⟨some 21, _, _, _, _, _⟩ rfl (st_made .u8 5 [15] hS13 (by show 1 ≤ 1000000000; decide) (by kernel_rfl)) ?_)))))))
 rintro _ w15 ⟨rfl, hS16⟩
 have hS16 : St _ _ w15 [rowE .u8 5 (some ⟨w5.heap.size, 0, none⟩) 1 ([15]), plE g0 zA zc A0_1 c0_1 zb zg zl zn p0_4 p0_5 p0_6 p0_7 p0_8 p0_9 p0_10 p0_11, rowE .u8 5 (some ⟨w12.heap.size, 0, none⟩) 1 ([15])] := hS16
 refine ⟨(hS16.pick [1] rfl rfl), ?_⟩
 have hP17 : St _ _ w15 ([plE g0 zA zc A0_1 c0_1 zb zg zl zn p0_4 p0_5 p0_6 p0_7 p0_8 p0_9 p0_10 p0_11] ++ [rowE .u8 5 (some ⟨w5.heap.size, 0, none⟩) 1 ([15]), rowE .u8 5 (some ⟨w12.heap.size, 0, none⟩) 1 ([15])]) := hS16.pick [1, 0, 2] rfl rfl
 obtain ⟨b19, hc18, hF⟩ := bind_in hF
 try dsimp only at hF
 refine gdC 18 ⟨some 22, _, _, _, _, _⟩ _ rfl (by kernel_rfl) (pIs_ok N zb zg zl zn p0_4 p0_5 p0_6 p0_7 p0_8 p0_9 p0_10 p0_11 p0_4 ([15]) g0 zA zc A0_1 c0_1 (some ⟨w12.heap.size, 0, none⟩) 1 _ hc18 w15 (hP17.vwA hv0_0) (hP17.vwA hv0_1) (hP17.vwB 1 rfl) hP17.part) ?_
 rintro _ w20 ⟨rfl, hT22⟩
 have hS21 : St _ _ w20 [rowE .u8 5 (some ⟨w5.heap.size, 0, none⟩) 1 ([15]), rowE .u8 5 (some ⟨w12.heap.size, 0, none⟩) 1 ([15]), plE g0 zA zc A0_1 c0_1 zb zg zl zn p0_4 p0_5 p0_6 p0_7 p0_8 p0_9 p0_10 p0_11] := hP17.lendN _ hT22
 refine ⟨(hS21.pick [2] rfl rfl), gv1 19 23 (.bool b19) rfl (hS21.pick [2] rfl rfl) (gv1 20 2 (.int .u8 1) rfl (hS21.pick [2] rfl rfl) (gv1 21 3 (.bool b19) rfl (hS21.pick [2] rfl rfl) (gd_done (by kernel_rfl) (gx_thenN (hK4 _ _ (gx_ret ?_))))))⟩
 obtain rfl := sj hF
 exact gxF (.tuple #[.int .u8 1, .bool b19]) ⟨_, rfl, rfl, (hS21.pick [2] rfl rfl)⟩
 try dsimp only at hF
 refine gz1 10 14 rfl (hS13.pick [1] rfl rfl) (gz1 11 15 rfl (hS13.pick [1] rfl rfl) (gz1 12 16 rfl (hS13.pick [1] rfl rfl) (gz1 13 17 rfl (hS13.pick [1] rfl rfl) (gz1 14 18 rfl (hS13.pick [1] rfl rfl) (gz1 15 19 rfl (hS13.pick [1] rfl rfl) (gz1 16 20 rfl (hS13.pick [1] rfl rfl) (gz1 17 21 rfl (hS13.pick [1] rfl rfl) ?_)))))))
 refine gz1 18 22 rfl (hS13.pick [1] rfl rfl) (gv1 19 23 (.bool true) rfl (hS13.pick [1] rfl rfl) (gv1 20 2 (.int .u8 1) rfl (hS13.pick [1] rfl rfl) (gv1 21 3 (.bool true) rfl (hS13.pick [1] rfl rfl) (gd_done (by kernel_rfl) (gx_thenN (hK4 _ _ (gx_ret ?_)))))))
 obtain rfl := sj hF
 exact gxF (.tuple #[.int .u8 1, .bool true]) ⟨_, rfl, rfl, (hS13.pick [1] rfl rfl)⟩
def qBehindFirstHyphen (N : Nat) (zb : List Int) (zg : List Int) (zl : Int) (zn : Int) (p0_4 : Int) (p0_5 : Int) (p0_6 : Int) (p0_7 : Int) (p0_8 : Int) (p0_9 : Bool) (p0_10 : Bool) (p0_11 : Bool) : Option (Int × Bool) :=
 ((((pIs N zb zg zl zn p0_4 p0_5 p0_6 p0_7 p0_8 p0_9 p0_10 p0_11 zn ([14])).bind fun b20 => (match b20 with | true => some (true) | false => ((pBegins N zb zg zl zn p0_4 p0_5 p0_6 p0_7 p0_8 p0_9 p0_10 p0_11 zn (8208 : Int)).bind fun b26 => some (b26)))) : Option (Bool)).bind fun b12 => (((match b12 with | true => ((pIs N zb zg zl zn p0_4 p0_5 p0_6 p0_7 p0_8 p0_9 p0_10 p0_11 p0_4 ([0])).bind fun b43 => some (b43)) | false => some (false)) : Option (Bool)).bind fun b33 => (match b33 with | true => ((pEdge N zb zg zl zn p0_4 p0_5 p0_6 p0_7 p0_8 p0_9 p0_10 p0_11 zl).bind fun b49 => (match b49 with | true => some (0, true) | false => ((pIs N zb zg zl zn p0_4 p0_5 p0_6 p0_7 p0_8 p0_9 p0_10 p0_11 zl ([15])).bind fun b57 => some (0, b57)))) | false => some (0, false))))
def qBehindFirstHyphen_R (zb : List Int) (zg : List Int) (zl : Int) (zn : Int) (p0_4 : Int) (p0_5 : Int) (p0_6 : Int) (p0_7 : Int) (p0_8 : Int) (p0_9 : Bool) (p0_10 : Bool) (p0_11 : Bool) (g0 : Nat) (zA : Option Addr) (zc : Nat) (A0_1 : Option Addr) (c0_1 : Nat) (r : Int × Bool) (w0 : World) (v : Value) (w : World) : Prop := v = .tuple #[.int .u8 r.1, .bool r.2] ∧ St (foots [plE g0 zA zc A0_1 c0_1 zb zg zl zn p0_4 p0_5 p0_6 p0_7 p0_8 p0_9 p0_10 p0_11]) w0 w [plE g0 zA zc A0_1 c0_1 zb zg zl zn p0_4 p0_5 p0_6 p0_7 p0_8 p0_9 p0_10 p0_11]
theorem qBehindFirstHyphen_ok (N : Nat) (zb : List Int) (zg : List Int) (zl : Int) (zn : Int) (p0_4 : Int) (p0_5 : Int) (p0_6 : Int) (p0_7 : Int) (p0_8 : Int) (p0_9 : Bool) (p0_10 : Bool) (p0_11 : Bool) (g0 : Nat) (zA : Option Addr) (zc : Nat) (A0_1 : Option Addr) (c0_1 : Nat) (r : Int × Bool) (hF : qBehindFirstHyphen N zb zg zl zn p0_4 p0_5 p0_6 p0_7 p0_8 p0_9 p0_10 p0_11 = some r) (w0 : World) (hv0_0 : Vw (foots [plE g0 zA zc A0_1 c0_1 zb zg zl zn p0_4 p0_5 p0_6 p0_7 p0_8 p0_9 p0_10 p0_11]) .i32 w0 zA zc zb) (hv0_1 : Vw (foots [plE g0 zA zc A0_1 c0_1 zb zg zl zn p0_4 p0_5 p0_6 p0_7 p0_8 p0_9 p0_10 p0_11]) .u8 w0 A0_1 c0_1 zg) (hl : St (foots [plE g0 zA zc A0_1 c0_1 zb zg zl zn p0_4 p0_5 p0_6 p0_7 p0_8 p0_9 p0_10 p0_11]) w0 w0 [plE g0 zA zc A0_1 c0_1 zb zg zl zn p0_4 p0_5 p0_6 p0_7 p0_8 p0_9 p0_10 p0_11]) :
  Calls Tryz.prog 45 #[.pointer (some ⟨g0, 0, none⟩)] w0 fun e w => ∃ v, e = .returned v ∧ qBehindFirstHyphen_R zb zg zl zn p0_4 p0_5 p0_6 p0_7 p0_8 p0_9 p0_10 p0_11 g0 zA zc A0_1 c0_1 r w0 v w := by
 have hS0 := hl
 unfold qBehindFirstHyphen at hF
 refine calls_of Tryz.func45 rfl ⟨((vP g0) :: un 54 ([])).toArray, []⟩ (by kernel_rfl) (gx_seq (fun K1 hK2 => gx_region (gx_k (.int .u8 0) w0 (gx_k (.bool false) w0 (gx_nil (gx_thenN (hK2 _ _ (gx_seq (fun K3 hK4 => ?_)))))))))
 refine gdst (fun w => St (foots [plE g0 zA zc A0_1 c0_1 zb zg zl zn p0_4 p0_5 p0_6 p0_7 p0_8 p0_9 p0_10 p0_11]) w0 w [plE g0 zA zc A0_1 c0_1 zb zg zl zn p0_4 p0_5 p0_6 p0_7 p0_8 p0_9 p0_10 p0_11]) 53 ?_
 have hS6 := hS0.drew
 generalize w0.drew = w5 at hS6 ⊢
 refine gv1 0 4 (vP g0) rfl hS6 (gv1 1 5 (vP g0) rfl hS6 (gv1 2 6 (vP g0) rfl hS6 (gv1 3 7 (vP g0) rfl hS6 (gv1 4 8 (vP g0) rfl hS6 (gv1 5 9 (vQ g0 3) rfl hS6 (gu1 6 10 (i6 zn) rfl hS6 (fun w hSw => rl1 (hSw.box 0 rfl 3 rfl)) (gdR 7 ⟨some 11, _, _, _, _, _⟩ rfl (st_made .u8 5 [14] hS6 (by show 1 ≤ 1000000000; decide) (by kernel_rfl)) ?_)))))))
 rintro _ w7 ⟨rfl, hS8⟩
 have hS8 : St _ _ w7 [plE g0 zA zc A0_1 c0_1 zb zg zl zn p0_4 p0_5 p0_6 p0_7 p0_8 p0_9 p0_10 p0_11, rowE .u8 5 (some ⟨w5.heap.size, 0, none⟩) 1 ([14])] := hS8
 refine ⟨(hS8.pick [0] rfl rfl), ?_⟩
 obtain ⟨c13, hE14, hO15⟩ := bind_in hF
 refine gd_mid (fun a w => ∃ (b12 : Bool), selfA (fun u11 => ⟨((vP g0) :: undef :: (.int .u8 0) :: (.bool false) :: (vP g0) :: (vP g0) :: (vP g0) :: (vP g0) :: (vP g0) :: (vQ g0 3) :: (i6 zn) :: dd u11 11 11 ((.bool b12) :: un 32 ([]))).toArray, []⟩) a ∧ b12 = c13 ∧ St (foots [plE g0 zA zc A0_1 c0_1 zb zg zl zn p0_4 p0_5 p0_6 p0_7 p0_8 p0_9 p0_10 p0_11]) w0 w [plE g0 zA zc A0_1 c0_1 zb zg zl zn p0_4 p0_5 p0_6 p0_7 p0_8 p0_9 p0_10 p0_11]) 34 #[true, true, true, true, true, true, true, true, true, true, true, true, true, true, true, true, true, true, true, false, false, false, false, false, false, false, false, false, false, false, false, false, false, false, false, false, false, false, false, false, false, false, false, false, false, false, false, false, false, false, false, false, false] ?_ ?_
 rintro _ w9 ⟨b12, hq16, rfl, hS10⟩
 obtain ⟨u11, rfl⟩ := selfA_u hq16
 try dsimp only at hO15
 obtain ⟨c34, hE35, hO36⟩ := bind_in hO15
 refine gd_mid (fun a w => ∃ (b33 : Bool), selfA (fun u32 => ⟨((vP g0) :: undef :: (.int .u8 0) :: (.bool false) :: (vP g0) :: (vP g0) :: (vP g0) :: (vP g0) :: (vP g0) :: (vQ g0 3) :: (i6 zn) :: dd u11 11 11 ((.bool b12) :: dd u32 23 10 ((.bool b33) :: un 21 ([])))).toArray, []⟩) a ∧ b33 = c34 ∧ St (foots [plE g0 zA zc A0_1 c0_1 zb zg zl zn p0_4 p0_5 p0_6 p0_7 p0_8 p0_9 p0_10 p0_11]) w0 w [plE g0 zA zc A0_1 c0_1 zb zg zl zn p0_4 p0_5 p0_6 p0_7 p0_8 p0_9 p0_10 p0_11]) 23 #[true, true, true, true, true, true, true, true, true, true, true, true, true, true, true, true, true, true, true, true, true, true, true, true, true, true, true, true, true, true, false, false, false, false, false, false, false, false, false, false, false, false, false, false, false, false, false, false, false, false, false, false, false] ?_ ?_
 rintro _ w30 ⟨b33, hq37, rfl, hS31⟩
 obtain ⟨u32, rfl⟩ := selfA_u hq37
 try dsimp only at hO36
 refine gv1 30 34 (.bool b33) rfl hS31 ?_
 rcases b33 with _ | _
 try dsimp only at hO36
 refine gz1 31 35 rfl hS31 (gz1 32 36 rfl hS31 (gz1 33 37 rfl hS31 (gz1 34 38 rfl hS31 (gz1 35 39 rfl hS31 (gz1 36 40 rfl hS31 (gz1 37 41 rfl hS31 (gz1 38 42 rfl hS31 ?_)))))))
 refine gz1 39 43 rfl hS31 (gz1 40 44 rfl hS31 (gz1 41 45 rfl hS31 (gz1 42 46 rfl hS31 (gz1 43 47 rfl hS31 (gz1 44 48 rfl hS31 (gz1 45 49 rfl hS31 (gz1 46 50 rfl hS31 ?_)))))))
 refine gz1 47 51 rfl hS31 (gz1 48 52 rfl hS31 (gz1 49 53 rfl hS31 (gv1 50 54 (.bool false) rfl hS31 (gv1 51 2 (.int .u8 0) rfl hS31 (gv1 52 3 (.bool false) rfl hS31 (gd_done (by kernel_rfl) (gx_thenN ?_)))))))
 refine hK4 _ _ (gx_ret ?_)
 obtain rfl := sj hO36
 exact gxF (.tuple #[.int .u8 0, .bool false]) ⟨_, rfl, rfl, hS31⟩
 try dsimp only at hO36
 refine gv1 31 35 (vP g0) rfl hS31 (gv1 32 36 (vP g0) rfl hS31 (gv1 33 37 (vP g0) rfl hS31 (gv1 34 38 (vP g0) rfl hS31 (gv1 35 39 (vP g0) rfl hS31 (gv1 36 40 (vQ g0 2) rfl hS31 (gu1 37 41 (i6 zl) rfl hS31 (fun w hSw => rl1 (hSw.box 0 rfl 2 rfl)) ?_))))))
 have hP47 : St _ _ w30 ([plE g0 zA zc A0_1 c0_1 zb zg zl zn p0_4 p0_5 p0_6 p0_7 p0_8 p0_9 p0_10 p0_11] ++ []) := hS31
 obtain ⟨b49, hc48, hO36⟩ := bind_in hO36
 try dsimp only at hO36
 refine gdC 38 ⟨some 42, _, _, _, _, _⟩ _ rfl (by kernel_rfl) (pEdge_ok N zb zg zl zn p0_4 p0_5 p0_6 p0_7 p0_8 p0_9 p0_10 p0_11 zl g0 zA zc A0_1 c0_1 _ hc48 w30 (hP47.vwA hv0_0) (hP47.vwA hv0_1) hP47.part) ?_
 rintro _ w50 ⟨rfl, hT52⟩
 have hS51 : St _ _ w50 [plE g0 zA zc A0_1 c0_1 zb zg zl zn p0_4 p0_5 p0_6 p0_7 p0_8 p0_9 p0_10 p0_11] := hP47.lendN _ hT52
 refine ⟨hS51, gv1 39 43 (.bool b49) rfl hS51 ?_⟩
 rcases b49 with _ | _
 try dsimp only at hO36
 refine gv1 40 44 (vP g0) rfl hS51 (gv1 41 45 (vP g0) rfl hS51 (gv1 42 46 (vP g0) rfl hS51 (gv1 43 47 (vP g0) rfl hS51 (gv1 44 48 (vP g0) rfl hS51 (gv1 45 49 (vQ g0 2) rfl hS51 (gu1 46 50 (i6 zl) rfl hS51 (fun w hSw => rl1 (hSw.box 0 rfl 2 rfl)) (gdR 47 ⟨some 51, _, _, _, _, _⟩ rfl (st_made .u8 5 [15] hS51 (by show 1 ≤ 1000000000; decide) (by kernel_rfl)) ?_)))))))
 rintro _ w53 ⟨rfl, hS54⟩
 have hS54 : St _ _ w53 [plE g0 zA zc A0_1 c0_1 zb zg zl zn p0_4 p0_5 p0_6 p0_7 p0_8 p0_9 p0_10 p0_11, rowE .u8 5 (some ⟨w50.heap.size, 0, none⟩) 1 ([15])] := hS54
 refine ⟨(hS54.pick [0] rfl rfl), ?_⟩
 have hP55 : St _ _ w53 ([plE g0 zA zc A0_1 c0_1 zb zg zl zn p0_4 p0_5 p0_6 p0_7 p0_8 p0_9 p0_10 p0_11] ++ [rowE .u8 5 (some ⟨w50.heap.size, 0, none⟩) 1 ([15])]) := hS54
 obtain ⟨b57, hc56, hO36⟩ := bind_in hO36
 try dsimp only at hO36
 refine gdC 48 ⟨some 52, _, _, _, _, _⟩ _ rfl (by kernel_rfl) (pIs_ok N zb zg zl zn p0_4 p0_5 p0_6 p0_7 p0_8 p0_9 p0_10 p0_11 zl ([15]) g0 zA zc A0_1 c0_1 (some ⟨w50.heap.size, 0, none⟩) 1 _ hc56 w53 (hP55.vwA hv0_0) (hP55.vwA hv0_1) (hP55.vwB 0 rfl) hP55.part) ?_
 rintro _ w58 ⟨rfl, hT60⟩
 have hS59 : St _ _ w58 [rowE .u8 5 (some ⟨w50.heap.size, 0, none⟩) 1 ([15]), plE g0 zA zc A0_1 c0_1 zb zg zl zn p0_4 p0_5 p0_6 p0_7 p0_8 p0_9 p0_10 p0_11] := hP55.lendN _ hT60
 refine ⟨(hS59.pick [1] rfl rfl), gv1 49 53 (.bool b57) rfl (hS59.pick [1] rfl rfl) (gv1 50 54 (.bool b57) rfl (hS59.pick [1] rfl rfl) (gv1 51 2 (.int .u8 0) rfl (hS59.pick [1] rfl rfl) (gv1 52 3 (.bool b57) rfl (hS59.pick [1] rfl rfl) (gd_done (by kernel_rfl) (gx_thenN (hK4 _ _ ?_))))))⟩
 refine gx_ret ?_
 obtain rfl := sj hO36
 exact gxF (.tuple #[.int .u8 0, .bool b57]) ⟨_, rfl, rfl, (hS59.pick [1] rfl rfl)⟩
 try dsimp only at hO36
 refine gz1 40 44 rfl hS51 (gz1 41 45 rfl hS51 (gz1 42 46 rfl hS51 (gz1 43 47 rfl hS51 (gz1 44 48 rfl hS51 (gz1 45 49 rfl hS51 (gz1 46 50 rfl hS51 (gz1 47 51 rfl hS51 ?_)))))))
 refine gz1 48 52 rfl hS51 (gv1 49 53 (.bool true) rfl hS51 (gv1 50 54 (.bool true) rfl hS51 (gv1 51 2 (.int .u8 0) rfl hS51 (gv1 52 3 (.bool true) rfl hS51 (gd_done (by kernel_rfl) (gx_thenN (hK4 _ _ ?_)))))))
 refine gx_ret ?_
 obtain rfl := sj hO36
 exact gxF (.tuple #[.int .u8 0, .bool true]) ⟨_, rfl, rfl, hS51⟩
 intro hK38
 refine gv1 19 23 (.bool b12) rfl hS10 ?_
 rcases b12 with _ | _
 try dsimp only at hE35
 refine gz1 20 24 rfl hS10 (gz1 21 25 rfl hS10 (gz1 22 26 rfl hS10 (gz1 23 27 rfl hS10 (gz1 24 28 rfl hS10 (gz1 25 29 rfl hS10 (gz1 26 30 rfl hS10 (gz1 27 31 rfl hS10 ?_)))))))
 refine gz1 28 32 rfl hS10 (gv1 29 33 (.bool false) rfl hS10 ?_)
 exact gd_to hK38 (by kernel_rfl) ⟨false, selfA_i (by kernel_rfl), (sj hE35), hS10⟩
 try dsimp only at hE35
 refine gv1 20 24 (vP g0) rfl hS10 (gv1 21 25 (vP g0) rfl hS10 (gv1 22 26 (vP g0) rfl hS10 (gv1 23 27 (vP g0) rfl hS10 (gv1 24 28 (vP g0) rfl hS10 (gv1 25 29 (vQ g0 4) rfl hS10 (gu1 26 30 (i6 p0_4) rfl hS10 (fun w hSw => rl1 (hSw.box 0 rfl 4 rfl)) (gdR 27 ⟨some 31, _, _, _, _, _⟩ rfl (st_made .u8 5 [0] hS10 (by show 1 ≤ 1000000000; decide) (by kernel_rfl)) ?_)))))))
 rintro _ w39 ⟨rfl, hS40⟩
 have hS40 : St _ _ w39 [plE g0 zA zc A0_1 c0_1 zb zg zl zn p0_4 p0_5 p0_6 p0_7 p0_8 p0_9 p0_10 p0_11, rowE .u8 5 (some ⟨w9.heap.size, 0, none⟩) 1 ([0])] := hS40
 refine ⟨(hS40.pick [0] rfl rfl), ?_⟩
 have hP41 : St _ _ w39 ([plE g0 zA zc A0_1 c0_1 zb zg zl zn p0_4 p0_5 p0_6 p0_7 p0_8 p0_9 p0_10 p0_11] ++ [rowE .u8 5 (some ⟨w9.heap.size, 0, none⟩) 1 ([0])]) := hS40
 obtain ⟨b43, hc42, hE35⟩ := bind_in hE35
 try dsimp only at hE35
 refine gdC 28 ⟨some 32, _, _, _, _, _⟩ _ rfl (by kernel_rfl) (pIs_ok N zb zg zl zn p0_4 p0_5 p0_6 p0_7 p0_8 p0_9 p0_10 p0_11 p0_4 ([0]) g0 zA zc A0_1 c0_1 (some ⟨w9.heap.size, 0, none⟩) 1 _ hc42 w39 (hP41.vwA hv0_0) (hP41.vwA hv0_1) (hP41.vwB 0 rfl) hP41.part) ?_
 rintro _ w44 ⟨rfl, hT46⟩
 have hS45 : St _ _ w44 [rowE .u8 5 (some ⟨w9.heap.size, 0, none⟩) 1 ([0]), plE g0 zA zc A0_1 c0_1 zb zg zl zn p0_4 p0_5 p0_6 p0_7 p0_8 p0_9 p0_10 p0_11] := hP41.lendN _ hT46
 refine ⟨(hS45.pick [1] rfl rfl), gv1 29 33 (.bool b43) rfl (hS45.pick [1] rfl rfl) ?_⟩
 exact gd_to hK38 (by kernel_rfl) ⟨b43, selfA_i (by kernel_rfl), (sj hE35), (hS45.pick [1] rfl rfl)⟩
 intro hK17
 have hP18 : St _ _ w7 ([plE g0 zA zc A0_1 c0_1 zb zg zl zn p0_4 p0_5 p0_6 p0_7 p0_8 p0_9 p0_10 p0_11] ++ [rowE .u8 5 (some ⟨w5.heap.size, 0, none⟩) 1 ([14])]) := hS8
 obtain ⟨b20, hc19, hE14⟩ := bind_in hE14
 try dsimp only at hE14
 refine gdC 8 ⟨some 12, _, _, _, _, _⟩ _ rfl (by kernel_rfl) (pIs_ok N zb zg zl zn p0_4 p0_5 p0_6 p0_7 p0_8 p0_9 p0_10 p0_11 zn ([14]) g0 zA zc A0_1 c0_1 (some ⟨w5.heap.size, 0, none⟩) 1 _ hc19 w7 (hP18.vwA hv0_0) (hP18.vwA hv0_1) (hP18.vwB 0 rfl) hP18.part) ?_
 rintro _ w21 ⟨rfl, hT23⟩
 have hS22 : St _ _ w21 [rowE .u8 5 (some ⟨w5.heap.size, 0, none⟩) 1 ([14]), plE g0 zA zc A0_1 c0_1 zb zg zl zn p0_4 p0_5 p0_6 p0_7 p0_8 p0_9 p0_10 p0_11] := hP18.lendN _ hT23
 refine ⟨(hS22.pick [1] rfl rfl), gv1 9 13 (.bool b20) rfl (hS22.pick [1] rfl rfl) ?_⟩
 rcases b20 with _ | _
 try dsimp only at hE14
 refine gv1 10 14 (vP g0) rfl (hS22.pick [1] rfl rfl) (gv1 11 15 (vP g0) rfl (hS22.pick [1] rfl rfl) (gv1 12 16 (vP g0) rfl (hS22.pick [1] rfl rfl) (gv1 13 17 (vP g0) rfl (hS22.pick [1] rfl rfl) (gv1 14 18 (vP g0) rfl (hS22.pick [1] rfl rfl) (gv1 15 19 (vQ g0 3) rfl (hS22.pick [1] rfl rfl) (gu1 16 20 (i6 zn) rfl (hS22.pick [1] rfl rfl) (fun w hSw => rl1 (hSw.box 0 rfl 3 rfl)) ?_))))))
 have hP24 : St _ _ w21 ([plE g0 zA zc A0_1 c0_1 zb zg zl zn p0_4 p0_5 p0_6 p0_7 p0_8 p0_9 p0_10 p0_11] ++ [rowE .u8 5 (some ⟨w5.heap.size, 0, none⟩) 1 ([14])]) := hS22.pick [1, 0] rfl rfl
 obtain ⟨b26, hc25, hE14⟩ := bind_in hE14
 try dsimp only at hE14
 refine gdC 17 ⟨some 21, _, _, _, _, _⟩ _ rfl (by kernel_rfl) (pBegins_ok N zb zg zl zn p0_4 p0_5 p0_6 p0_7 p0_8 p0_9 p0_10 p0_11 zn (8208 : Int) g0 zA zc A0_1 c0_1 _ hc25 w21 (hP24.vwA hv0_0) (hP24.vwA hv0_1) hP24.part) ?_
 rintro _ w27 ⟨rfl, hT29⟩
 have hS28 : St _ _ w27 [rowE .u8 5 (some ⟨w5.heap.size, 0, none⟩) 1 ([14]), plE g0 zA zc A0_1 c0_1 zb zg zl zn p0_4 p0_5 p0_6 p0_7 p0_8 p0_9 p0_10 p0_11] := hP24.lendN _ hT29
 refine ⟨(hS28.pick [1] rfl rfl), gv1 18 22 (.bool b26) rfl (hS28.pick [1] rfl rfl) ?_⟩
 exact gd_to hK17 (by kernel_rfl) ⟨b26, selfA_i (by kernel_rfl), (sj hE14), (hS28.pick [1] rfl rfl)⟩
 try dsimp only at hE14
 refine gz1 10 14 rfl (hS22.pick [1] rfl rfl) (gz1 11 15 rfl (hS22.pick [1] rfl rfl) (gz1 12 16 rfl (hS22.pick [1] rfl rfl) (gz1 13 17 rfl (hS22.pick [1] rfl rfl) (gz1 14 18 rfl (hS22.pick [1] rfl rfl) (gz1 15 19 rfl (hS22.pick [1] rfl rfl) (gz1 16 20 rfl (hS22.pick [1] rfl rfl) (gz1 17 21 rfl (hS22.pick [1] rfl rfl) ?_)))))))
 refine gv1 18 22 (.bool true) rfl (hS22.pick [1] rfl rfl) ?_
 exact gd_to hK17 (by kernel_rfl) ⟨true, selfA_i (by kernel_rfl), (sj hE14), (hS22.pick [1] rfl rfl)⟩
def qBesideHyphen (N : Nat) (zb : List Int) (zg : List Int) (zl : Int) (zn : Int) (p0_4 : Int) (p0_5 : Int) (p0_6 : Int) (p0_7 : Int) (p0_8 : Int) (p0_9 : Bool) (p0_10 : Bool) (p0_11 : Bool) : Option (Int × Bool) :=
 ((pIs N zb zg zl zn p0_4 p0_5 p0_6 p0_7 p0_8 p0_9 p0_10 p0_11 p0_4 ([11, 14, 18])).bind fun b11 => (match b11 with | true => some (0, true) | false => ((pIs N zb zg zl zn p0_4 p0_5 p0_6 p0_7 p0_8 p0_9 p0_10 p0_11 zn ([12])).bind fun b19 => some (0, b19))))
def qBesideHyphen_R (zb : List Int) (zg : List Int) (zl : Int) (zn : Int) (p0_4 : Int) (p0_5 : Int) (p0_6 : Int) (p0_7 : Int) (p0_8 : Int) (p0_9 : Bool) (p0_10 : Bool) (p0_11 : Bool) (g0 : Nat) (zA : Option Addr) (zc : Nat) (A0_1 : Option Addr) (c0_1 : Nat) (r : Int × Bool) (w0 : World) (v : Value) (w : World) : Prop := v = .tuple #[.int .u8 r.1, .bool r.2] ∧ St (foots [plE g0 zA zc A0_1 c0_1 zb zg zl zn p0_4 p0_5 p0_6 p0_7 p0_8 p0_9 p0_10 p0_11]) w0 w [plE g0 zA zc A0_1 c0_1 zb zg zl zn p0_4 p0_5 p0_6 p0_7 p0_8 p0_9 p0_10 p0_11]
theorem qBesideHyphen_ok (N : Nat) (zb : List Int) (zg : List Int) (zl : Int) (zn : Int) (p0_4 : Int) (p0_5 : Int) (p0_6 : Int) (p0_7 : Int) (p0_8 : Int) (p0_9 : Bool) (p0_10 : Bool) (p0_11 : Bool) (g0 : Nat) (zA : Option Addr) (zc : Nat) (A0_1 : Option Addr) (c0_1 : Nat) (r : Int × Bool) (hF : qBesideHyphen N zb zg zl zn p0_4 p0_5 p0_6 p0_7 p0_8 p0_9 p0_10 p0_11 = some r) (w0 : World) (hv0_0 : Vw (foots [plE g0 zA zc A0_1 c0_1 zb zg zl zn p0_4 p0_5 p0_6 p0_7 p0_8 p0_9 p0_10 p0_11]) .i32 w0 zA zc zb) (hv0_1 : Vw (foots [plE g0 zA zc A0_1 c0_1 zb zg zl zn p0_4 p0_5 p0_6 p0_7 p0_8 p0_9 p0_10 p0_11]) .u8 w0 A0_1 c0_1 zg) (hl : St (foots [plE g0 zA zc A0_1 c0_1 zb zg zl zn p0_4 p0_5 p0_6 p0_7 p0_8 p0_9 p0_10 p0_11]) w0 w0 [plE g0 zA zc A0_1 c0_1 zb zg zl zn p0_4 p0_5 p0_6 p0_7 p0_8 p0_9 p0_10 p0_11]) :
  Calls Tryz.prog 46 #[.pointer (some ⟨g0, 0, none⟩)] w0 fun e w => ∃ v, e = .returned v ∧ qBesideHyphen_R zb zg zl zn p0_4 p0_5 p0_6 p0_7 p0_8 p0_9 p0_10 p0_11 g0 zA zc A0_1 c0_1 r w0 v w := by
 have hS0 := hl
 unfold qBesideHyphen at hF
 refine calls_of Tryz.func46 rfl ⟨((vP g0) :: un 23 ([])).toArray, []⟩ (by kernel_rfl) (gx_seq (fun K1 hK2 => gx_region (gx_k (.int .u8 0) w0 (gx_k (.bool false) w0 (gx_nil (gx_thenN (hK2 _ _ (gx_seq (fun K3 hK4 => ?_)))))))))
 refine gdst (fun w => St (foots [plE g0 zA zc A0_1 c0_1 zb zg zl zn p0_4 p0_5 p0_6 p0_7 p0_8 p0_9 p0_10 p0_11]) w0 w [plE g0 zA zc A0_1 c0_1 zb zg zl zn p0_4 p0_5 p0_6 p0_7 p0_8 p0_9 p0_10 p0_11]) 22 ?_
 have hS6 := hS0.drew
 generalize w0.drew = w5 at hS6 ⊢
 refine gv1 0 4 (vP g0) rfl hS6 (gv1 1 5 (vP g0) rfl hS6 (gv1 2 6 (vP g0) rfl hS6 (gv1 3 7 (vP g0) rfl hS6 (gv1 4 8 (vP g0) rfl hS6 (gv1 5 9 (vQ g0 4) rfl hS6 (gu1 6 10 (i6 p0_4) rfl hS6 (fun w hSw => rl1 (hSw.box 0 rfl 4 rfl)) (gdR 7 ⟨some 11, _, _, _, _, _⟩ rfl (st_made .u8 5 [11, 14, 18] hS6 (by show 3 ≤ 1000000000; decide) (by kernel_rfl)) ?_)))))))
 rintro _ w7 ⟨rfl, hS8⟩
 have hS8 : St _ _ w7 [plE g0 zA zc A0_1 c0_1 zb zg zl zn p0_4 p0_5 p0_6 p0_7 p0_8 p0_9 p0_10 p0_11, rowE .u8 5 (some ⟨w5.heap.size, 0, none⟩) 3 ([11, 14, 18])] := hS8
 refine ⟨(hS8.pick [0] rfl rfl), ?_⟩
 have hP9 : St _ _ w7 ([plE g0 zA zc A0_1 c0_1 zb zg zl zn p0_4 p0_5 p0_6 p0_7 p0_8 p0_9 p0_10 p0_11] ++ [rowE .u8 5 (some ⟨w5.heap.size, 0, none⟩) 3 ([11, 14, 18])]) := hS8
 obtain ⟨b11, hc10, hF⟩ := bind_in hF
 try dsimp only at hF
 refine gdC 8 ⟨some 12, _, _, _, _, _⟩ _ rfl (by kernel_rfl) (pIs_ok N zb zg zl zn p0_4 p0_5 p0_6 p0_7 p0_8 p0_9 p0_10 p0_11 p0_4 ([11, 14, 18]) g0 zA zc A0_1 c0_1 (some ⟨w5.heap.size, 0, none⟩) 3 _ hc10 w7 (hP9.vwA hv0_0) (hP9.vwA hv0_1) (hP9.vwB 0 rfl) hP9.part) ?_
 rintro _ w12 ⟨rfl, hT14⟩
 have hS13 : St _ _ w12 [rowE .u8 5 (some ⟨w5.heap.size, 0, none⟩) 3 ([11, 14, 18]), plE g0 zA zc A0_1 c0_1 zb zg zl zn p0_4 p0_5 p0_6 p0_7 p0_8 p0_9 p0_10 p0_11] := hP9.lendN _ hT14
 refine ⟨(hS13.pick [1] rfl rfl), gv1 9 13 (.bool b11) rfl (hS13.pick [1] rfl rfl) ?_⟩
 rcases b11 with _ | _
 try dsimp only at hF
 refine gv1 10 14 (vP g0) rfl (hS13.pick [1] rfl rfl) (gv1 11 15 (vP g0) rfl (hS13.pick [1] rfl rfl) (gv1 12 16 (vP g0) rfl (hS13.pick [1] rfl rfl) (gv1 13 17 (vP g0) rfl (hS13.pick [1] rfl rfl) (gv1 14 18 (vP g0) rfl (hS13.pick [1] rfl rfl) (gv1 15 19 (vQ g0 3) rfl (hS13.pick [1] rfl rfl) (gu1 16 20 (i6 zn) rfl (hS13.pick [1] rfl rfl) (fun w hSw => rl1 (hSw.box 0 rfl 3 rfl)) (gdR 17 ⟨some 21, _, _, _, _, _⟩ rfl (st_made .u8 5 [12] hS13 (by show 1 ≤ 1000000000; decide) (by kernel_rfl)) ?_)))))))
 rintro _ w15 ⟨rfl, hS16⟩
 have hS16 : St _ _ w15 [rowE .u8 5 (some ⟨w5.heap.size, 0, none⟩) 3 ([11, 14, 18]), plE g0 zA zc A0_1 c0_1 zb zg zl zn p0_4 p0_5 p0_6 p0_7 p0_8 p0_9 p0_10 p0_11, rowE .u8 5 (some ⟨w12.heap.size, 0, none⟩) 1 ([12])] := hS16
 refine ⟨(hS16.pick [1] rfl rfl), ?_⟩
 have hP17 : St _ _ w15 ([plE g0 zA zc A0_1 c0_1 zb zg zl zn p0_4 p0_5 p0_6 p0_7 p0_8 p0_9 p0_10 p0_11] ++ [rowE .u8 5 (some ⟨w5.heap.size, 0, none⟩) 3 ([11, 14, 18]), rowE .u8 5 (some ⟨w12.heap.size, 0, none⟩) 1 ([12])]) := hS16.pick [1, 0, 2] rfl rfl
 obtain ⟨b19, hc18, hF⟩ := bind_in hF
 try dsimp only at hF
 refine gdC 18 ⟨some 22, _, _, _, _, _⟩ _ rfl (by kernel_rfl) (pIs_ok N zb zg zl zn p0_4 p0_5 p0_6 p0_7 p0_8 p0_9 p0_10 p0_11 zn ([12]) g0 zA zc A0_1 c0_1 (some ⟨w12.heap.size, 0, none⟩) 1 _ hc18 w15 (hP17.vwA hv0_0) (hP17.vwA hv0_1) (hP17.vwB 1 rfl) hP17.part) ?_
 rintro _ w20 ⟨rfl, hT22⟩
 have hS21 : St _ _ w20 [rowE .u8 5 (some ⟨w5.heap.size, 0, none⟩) 3 ([11, 14, 18]), rowE .u8 5 (some ⟨w12.heap.size, 0, none⟩) 1 ([12]), plE g0 zA zc A0_1 c0_1 zb zg zl zn p0_4 p0_5 p0_6 p0_7 p0_8 p0_9 p0_10 p0_11] := hP17.lendN _ hT22
 refine ⟨(hS21.pick [2] rfl rfl), gv1 19 23 (.bool b19) rfl (hS21.pick [2] rfl rfl) (gv1 20 2 (.int .u8 0) rfl (hS21.pick [2] rfl rfl) (gv1 21 3 (.bool b19) rfl (hS21.pick [2] rfl rfl) (gd_done (by kernel_rfl) (gx_thenN (hK4 _ _ (gx_ret ?_))))))⟩
 obtain rfl := sj hF
 exact gxF (.tuple #[.int .u8 0, .bool b19]) ⟨_, rfl, rfl, (hS21.pick [2] rfl rfl)⟩
 try dsimp only at hF
 refine gz1 10 14 rfl (hS13.pick [1] rfl rfl) (gz1 11 15 rfl (hS13.pick [1] rfl rfl) (gz1 12 16 rfl (hS13.pick [1] rfl rfl) (gz1 13 17 rfl (hS13.pick [1] rfl rfl) (gz1 14 18 rfl (hS13.pick [1] rfl rfl) (gz1 15 19 rfl (hS13.pick [1] rfl rfl) (gz1 16 20 rfl (hS13.pick [1] rfl rfl) (gz1 17 21 rfl (hS13.pick [1] rfl rfl) ?_)))))))
 refine gz1 18 22 rfl (hS13.pick [1] rfl rfl) (gv1 19 23 (.bool true) rfl (hS13.pick [1] rfl rfl) (gv1 20 2 (.int .u8 0) rfl (hS13.pick [1] rfl rfl) (gv1 21 3 (.bool true) rfl (hS13.pick [1] rfl rfl) (gd_done (by kernel_rfl) (gx_thenN (hK4 _ _ (gx_ret ?_)))))))
 obtain rfl := sj hF
 exact gxF (.tuple #[.int .u8 0, .bool true]) ⟨_, rfl, rfl, (hS13.pick [1] rfl rfl)⟩
def qBehindHebrewHyphen (N : Nat) (zb : List Int) (zg : List Int) (zl : Int) (zn : Int) (p0_4 : Int) (p0_5 : Int) (p0_6 : Int) (p0_7 : Int) (p0_8 : Int) (p0_9 : Bool) (p0_10 : Bool) (p0_11 : Bool) : Option (Int × Bool) :=
 ((((pIs N zb zg zl zn p0_4 p0_5 p0_6 p0_7 p0_8 p0_9 p0_10 p0_11 zl ([28])).bind fun b20 => (match b20 with | true => ((((pIs N zb zg zl zn p0_4 p0_5 p0_6 p0_7 p0_8 p0_9 p0_10 p0_11 zn ([14])).bind fun b37 => (match b37 with | true => some (true) | false => ((((pIs N zb zg zl zn p0_4 p0_5 p0_6 p0_7 p0_8 p0_9 p0_10 p0_11 zn ([11])).bind fun b54 => (match b54 with | true => ((pWide N zb zg zl zn p0_4 p0_5 p0_6 p0_7 p0_8 p0_9 p0_10 p0_11 zn).bind fun b60 => (match b60 with | true => some (false) | false => some (true))) | false => some (false))) : Option (Bool)).bind fun b46 => some (b46)))) : Option (Bool)).bind fun b29 => some (b29)) | false => some (false))) : Option (Bool)).bind fun b12 => (match b12 with | true => ((pIs N zb zg zl zn p0_4 p0_5 p0_6 p0_7 p0_8 p0_9 p0_10 p0_11 p0_4 ([28])).bind fun b68 => some (0, (!b68))) | false => some (0, false)))
def qBehindHebrewHyphen_R (zb : List Int) (zg : List Int) (zl : Int) (zn : Int) (p0_4 : Int) (p0_5 : Int) (p0_6 : Int) (p0_7 : Int) (p0_8 : Int) (p0_9 : Bool) (p0_10 : Bool) (p0_11 : Bool) (g0 : Nat) (zA : Option Addr) (zc : Nat) (A0_1 : Option Addr) (c0_1 : Nat) (r : Int × Bool) (w0 : World) (v : Value) (w : World) : Prop := v = .tuple #[.int .u8 r.1, .bool r.2] ∧ St (foots [plE g0 zA zc A0_1 c0_1 zb zg zl zn p0_4 p0_5 p0_6 p0_7 p0_8 p0_9 p0_10 p0_11]) w0 w [plE g0 zA zc A0_1 c0_1 zb zg zl zn p0_4 p0_5 p0_6 p0_7 p0_8 p0_9 p0_10 p0_11]
theorem qBehindHebrewHyphen_ok (N : Nat) (zb : List Int) (zg : List Int) (zl : Int) (zn : Int) (p0_4 : Int) (p0_5 : Int) (p0_6 : Int) (p0_7 : Int) (p0_8 : Int) (p0_9 : Bool) (p0_10 : Bool) (p0_11 : Bool) (g0 : Nat) (zA : Option Addr) (zc : Nat) (A0_1 : Option Addr) (c0_1 : Nat) (r : Int × Bool) (hF : qBehindHebrewHyphen N zb zg zl zn p0_4 p0_5 p0_6 p0_7 p0_8 p0_9 p0_10 p0_11 = some r) (w0 : World) (hv0_0 : Vw (foots [plE g0 zA zc A0_1 c0_1 zb zg zl zn p0_4 p0_5 p0_6 p0_7 p0_8 p0_9 p0_10 p0_11]) .i32 w0 zA zc zb) (hv0_1 : Vw (foots [plE g0 zA zc A0_1 c0_1 zb zg zl zn p0_4 p0_5 p0_6 p0_7 p0_8 p0_9 p0_10 p0_11]) .u8 w0 A0_1 c0_1 zg) (hl : St (foots [plE g0 zA zc A0_1 c0_1 zb zg zl zn p0_4 p0_5 p0_6 p0_7 p0_8 p0_9 p0_10 p0_11]) w0 w0 [plE g0 zA zc A0_1 c0_1 zb zg zl zn p0_4 p0_5 p0_6 p0_7 p0_8 p0_9 p0_10 p0_11]) :
  Calls Tryz.prog 47 #[.pointer (some ⟨g0, 0, none⟩)] w0 fun e w => ∃ v, e = .returned v ∧ qBehindHebrewHyphen_R zb zg zl zn p0_4 p0_5 p0_6 p0_7 p0_8 p0_9 p0_10 p0_11 g0 zA zc A0_1 c0_1 r w0 v w := by
 have hS0 := hl
 unfold qBehindHebrewHyphen at hF
 refine calls_of Tryz.func47 rfl ⟨((vP g0) :: un 57 ([])).toArray, []⟩ (by kernel_rfl) (gx_seq (fun K1 hK2 => gx_region (gx_k (.int .u8 0) w0 (gx_k (.bool false) w0 (gx_nil (gx_thenN (hK2 _ _ (gx_seq (fun K3 hK4 => ?_)))))))))
 refine gdst (fun w => St (foots [plE g0 zA zc A0_1 c0_1 zb zg zl zn p0_4 p0_5 p0_6 p0_7 p0_8 p0_9 p0_10 p0_11]) w0 w [plE g0 zA zc A0_1 c0_1 zb zg zl zn p0_4 p0_5 p0_6 p0_7 p0_8 p0_9 p0_10 p0_11]) 56 ?_
 have hS6 := hS0.drew
 generalize w0.drew = w5 at hS6 ⊢
 refine gv1 0 4 (vP g0) rfl hS6 (gv1 1 5 (vP g0) rfl hS6 (gv1 2 6 (vP g0) rfl hS6 (gv1 3 7 (vP g0) rfl hS6 (gv1 4 8 (vP g0) rfl hS6 (gv1 5 9 (vQ g0 2) rfl hS6 (gu1 6 10 (i6 zl) rfl hS6 (fun w hSw => rl1 (hSw.box 0 rfl 2 rfl)) (gdR 7 ⟨some 11, _, _, _, _, _⟩ rfl (st_made .u8 5 [28] hS6 (by show 1 ≤ 1000000000; decide) (by kernel_rfl)) ?_)))))))
 rintro _ w7 ⟨rfl, hS8⟩
 have hS8 : St _ _ w7 [plE g0 zA zc A0_1 c0_1 zb zg zl zn p0_4 p0_5 p0_6 p0_7 p0_8 p0_9 p0_10 p0_11, rowE .u8 5 (some ⟨w5.heap.size, 0, none⟩) 1 ([28])] := hS8
 refine ⟨(hS8.pick [0] rfl rfl), ?_⟩
 obtain ⟨c13, hE14, hO15⟩ := bind_in hF
 refine gd_mid (fun a w => ∃ (b12 : Bool), selfA (fun u11 => ⟨((vP g0) :: undef :: (.int .u8 0) :: (.bool false) :: (vP g0) :: (vP g0) :: (vP g0) :: (vP g0) :: (vP g0) :: (vQ g0 2) :: (i6 zl) :: dd u11 11 34 ((.bool b12) :: un 12 ([]))).toArray, []⟩) a ∧ b12 = c13 ∧ St (foots [plE g0 zA zc A0_1 c0_1 zb zg zl zn p0_4 p0_5 p0_6 p0_7 p0_8 p0_9 p0_10 p0_11]) w0 w [plE g0 zA zc A0_1 c0_1 zb zg zl zn p0_4 p0_5 p0_6 p0_7 p0_8 p0_9 p0_10 p0_11]) 14 #[true, true, true, true, true, true, true, true, true, true, true, true, true, true, true, true, true, true, true, true, true, true, true, true, true, true, true, true, true, true, true, true, true, true, true, true, true, true, true, true, true, true, false, false, false, false, false, false, false, false, false, false, false, false, false, false] ?_ ?_
 rintro _ w9 ⟨b12, hq16, rfl, hS10⟩
 obtain ⟨u11, rfl⟩ := selfA_u hq16
 try dsimp only at hO15
 refine gv1 42 46 (.bool b12) rfl hS10 ?_
 rcases b12 with _ | _
 try dsimp only at hO15
 refine gz1 43 47 rfl hS10 (gz1 44 48 rfl hS10 (gz1 45 49 rfl hS10 (gz1 46 50 rfl hS10 (gz1 47 51 rfl hS10 (gz1 48 52 rfl hS10 (gz1 49 53 rfl hS10 (gz1 50 54 rfl hS10 ?_)))))))
 refine gz1 51 55 rfl hS10 (gz1 52 56 rfl hS10 (gv1 53 57 (.bool false) rfl hS10 (gv1 54 2 (.int .u8 0) rfl hS10 (gv1 55 3 (.bool false) rfl hS10 (gd_done (by kernel_rfl) (gx_thenN (hK4 _ _ ?_)))))))
 refine gx_ret ?_
 obtain rfl := sj hO15
 exact gxF (.tuple #[.int .u8 0, .bool false]) ⟨_, rfl, rfl, hS10⟩
 try dsimp only at hO15
 refine gv1 43 47 (vP g0) rfl hS10 (gv1 44 48 (vP g0) rfl hS10 (gv1 45 49 (vP g0) rfl hS10 (gv1 46 50 (vP g0) rfl hS10 (gv1 47 51 (vP g0) rfl hS10 (gv1 48 52 (vQ g0 4) rfl hS10 (gu1 49 53 (i6 p0_4) rfl hS10 (fun w hSw => rl1 (hSw.box 0 rfl 4 rfl)) (gdR 50 ⟨some 54, _, _, _, _, _⟩ rfl (st_made .u8 5 [28] hS10 (by show 1 ≤ 1000000000; decide) (by kernel_rfl)) ?_)))))))
 rintro _ w64 ⟨rfl, hS65⟩
 have hS65 : St _ _ w64 [plE g0 zA zc A0_1 c0_1 zb zg zl zn p0_4 p0_5 p0_6 p0_7 p0_8 p0_9 p0_10 p0_11, rowE .u8 5 (some ⟨w9.heap.size, 0, none⟩) 1 ([28])] := hS65
 refine ⟨(hS65.pick [0] rfl rfl), ?_⟩
 have hP66 : St _ _ w64 ([plE g0 zA zc A0_1 c0_1 zb zg zl zn p0_4 p0_5 p0_6 p0_7 p0_8 p0_9 p0_10 p0_11] ++ [rowE .u8 5 (some ⟨w9.heap.size, 0, none⟩) 1 ([28])]) := hS65
 obtain ⟨b68, hc67, hO15⟩ := bind_in hO15
 try dsimp only at hO15
 refine gdC 51 ⟨some 55, _, _, _, _, _⟩ _ rfl (by kernel_rfl) (pIs_ok N zb zg zl zn p0_4 p0_5 p0_6 p0_7 p0_8 p0_9 p0_10 p0_11 p0_4 ([28]) g0 zA zc A0_1 c0_1 (some ⟨w9.heap.size, 0, none⟩) 1 _ hc67 w64 (hP66.vwA hv0_0) (hP66.vwA hv0_1) (hP66.vwB 0 rfl) hP66.part) ?_
 rintro _ w69 ⟨rfl, hT71⟩
 have hS70 : St _ _ w69 [rowE .u8 5 (some ⟨w9.heap.size, 0, none⟩) 1 ([28]), plE g0 zA zc A0_1 c0_1 zb zg zl zn p0_4 p0_5 p0_6 p0_7 p0_8 p0_9 p0_10 p0_11] := hP66.lendN _ hT71
 refine ⟨(hS70.pick [1] rfl rfl), gv1 52 56 (.bool (!b68)) rfl (hS70.pick [1] rfl rfl) (gv1 53 57 (.bool (!b68)) rfl (hS70.pick [1] rfl rfl) (gv1 54 2 (.int .u8 0) rfl (hS70.pick [1] rfl rfl) (gv1 55 3 (.bool (!b68)) rfl (hS70.pick [1] rfl rfl) (gd_done (by kernel_rfl) (gx_thenN (hK4 _ _ ?_))))))⟩
 refine gx_ret ?_
 obtain rfl := sj hO15
 exact gxF (.tuple #[.int .u8 0, .bool (!b68)]) ⟨_, rfl, rfl, (hS70.pick [1] rfl rfl)⟩
 intro hK17
 have hP18 : St _ _ w7 ([plE g0 zA zc A0_1 c0_1 zb zg zl zn p0_4 p0_5 p0_6 p0_7 p0_8 p0_9 p0_10 p0_11] ++ [rowE .u8 5 (some ⟨w5.heap.size, 0, none⟩) 1 ([28])]) := hS8
 obtain ⟨b20, hc19, hE14⟩ := bind_in hE14
 try dsimp only at hE14
 refine gdC 8 ⟨some 12, _, _, _, _, _⟩ _ rfl (by kernel_rfl) (pIs_ok N zb zg zl zn p0_4 p0_5 p0_6 p0_7 p0_8 p0_9 p0_10 p0_11 zl ([28]) g0 zA zc A0_1 c0_1 (some ⟨w5.heap.size, 0, none⟩) 1 _ hc19 w7 (hP18.vwA hv0_0) (hP18.vwA hv0_1) (hP18.vwB 0 rfl) hP18.part) ?_
 rintro _ w21 ⟨rfl, hT23⟩
 have hS22 : St _ _ w21 [rowE .u8 5 (some ⟨w5.heap.size, 0, none⟩) 1 ([28]), plE g0 zA zc A0_1 c0_1 zb zg zl zn p0_4 p0_5 p0_6 p0_7 p0_8 p0_9 p0_10 p0_11] := hP18.lendN _ hT23
 refine ⟨(hS22.pick [1] rfl rfl), gv1 9 13 (.bool b20) rfl (hS22.pick [1] rfl rfl) ?_⟩
 rcases b20 with _ | _
 try dsimp only at hE14
 refine gz1 10 14 rfl (hS22.pick [1] rfl rfl) (gz1 11 15 rfl (hS22.pick [1] rfl rfl) (gz1 12 16 rfl (hS22.pick [1] rfl rfl) (gz1 13 17 rfl (hS22.pick [1] rfl rfl) (gz1 14 18 rfl (hS22.pick [1] rfl rfl) (gz1 15 19 rfl (hS22.pick [1] rfl rfl) (gz1 16 20 rfl (hS22.pick [1] rfl rfl) (gz1 17 21 rfl (hS22.pick [1] rfl rfl) ?_)))))))
 refine gz1 18 22 rfl (hS22.pick [1] rfl rfl) (gz1 19 23 rfl (hS22.pick [1] rfl rfl) (gz1 20 24 rfl (hS22.pick [1] rfl rfl) (gz1 21 25 rfl (hS22.pick [1] rfl rfl) (gz1 22 26 rfl (hS22.pick [1] rfl rfl) (gz1 23 27 rfl (hS22.pick [1] rfl rfl) (gz1 24 28 rfl (hS22.pick [1] rfl rfl) (gz1 25 29 rfl (hS22.pick [1] rfl rfl) ?_)))))))
 refine gz1 26 30 rfl (hS22.pick [1] rfl rfl) (gz1 27 31 rfl (hS22.pick [1] rfl rfl) (gz1 28 32 rfl (hS22.pick [1] rfl rfl) (gz1 29 33 rfl (hS22.pick [1] rfl rfl) (gz1 30 34 rfl (hS22.pick [1] rfl rfl) (gz1 31 35 rfl (hS22.pick [1] rfl rfl) (gz1 32 36 rfl (hS22.pick [1] rfl rfl) (gz1 33 37 rfl (hS22.pick [1] rfl rfl) ?_)))))))
 refine gz1 34 38 rfl (hS22.pick [1] rfl rfl) (gz1 35 39 rfl (hS22.pick [1] rfl rfl) (gz1 36 40 rfl (hS22.pick [1] rfl rfl) (gz1 37 41 rfl (hS22.pick [1] rfl rfl) (gz1 38 42 rfl (hS22.pick [1] rfl rfl) (gz1 39 43 rfl (hS22.pick [1] rfl rfl) (gz1 40 44 rfl (hS22.pick [1] rfl rfl) (gv1 41 45 (.bool false) rfl (hS22.pick [1] rfl rfl) ?_)))))))
 exact gd_to hK17 (by kernel_rfl) ⟨false, selfA_i (by kernel_rfl), (sj hE14), (hS22.pick [1] rfl rfl)⟩
 try dsimp only at hE14
 refine gv1 10 14 (vP g0) rfl (hS22.pick [1] rfl rfl) (gv1 11 15 (vP g0) rfl (hS22.pick [1] rfl rfl) (gv1 12 16 (vP g0) rfl (hS22.pick [1] rfl rfl) (gv1 13 17 (vP g0) rfl (hS22.pick [1] rfl rfl) (gv1 14 18 (vP g0) rfl (hS22.pick [1] rfl rfl) (gv1 15 19 (vQ g0 3) rfl (hS22.pick [1] rfl rfl) (gu1 16 20 (i6 zn) rfl (hS22.pick [1] rfl rfl) (fun w hSw => rl1 (hSw.box 0 rfl 3 rfl)) (gdR 17 ⟨some 21, _, _, _, _, _⟩ rfl (st_made .u8 5 [14] hS22 (by show 1 ≤ 1000000000; decide) (by kernel_rfl)) ?_)))))))
 rintro _ w24 ⟨rfl, hS25⟩
 have hS25 : St _ _ w24 [rowE .u8 5 (some ⟨w5.heap.size, 0, none⟩) 1 ([28]), plE g0 zA zc A0_1 c0_1 zb zg zl zn p0_4 p0_5 p0_6 p0_7 p0_8 p0_9 p0_10 p0_11, rowE .u8 5 (some ⟨w21.heap.size, 0, none⟩) 1 ([14])] := hS25
 refine ⟨(hS25.pick [1] rfl rfl), ?_⟩
 obtain ⟨c30, hE31, hO32⟩ := bind_in hE14
 refine gd_mid (fun a w => ∃ (b29 : Bool), selfA (fun u28 => ⟨((vP g0) :: undef :: (.int .u8 0) :: (.bool false) :: (vP g0) :: (vP g0) :: (vP g0) :: (vP g0) :: (vP g0) :: (vQ g0 2) :: (i6 zl) :: (u28 11) :: (.bool true) :: (.bool true) :: (vP g0) :: (vP g0) :: (vP g0) :: (vP g0) :: (vP g0) :: (vQ g0 3) :: (i6 zn) :: dd u28 21 23 ((.bool b29) :: un 13 ([]))).toArray, []⟩) a ∧ b29 = c30 ∧ St (foots [plE g0 zA zc A0_1 c0_1 zb zg zl zn p0_4 p0_5 p0_6 p0_7 p0_8 p0_9 p0_10 p0_11]) w0 w [plE g0 zA zc A0_1 c0_1 zb zg zl zn p0_4 p0_5 p0_6 p0_7 p0_8 p0_9 p0_10 p0_11]) 15 #[true, true, true, true, true, true, true, true, true, true, true, true, true, true, true, true, true, true, true, true, true, true, true, true, true, true, true, true, true, true, true, true, true, true, true, true, true, true, true, true, true, false, false, false, false, false, false, false, false, false, false, false, false, false, false, false] ?_ ?_
 rintro _ w26 ⟨b29, hq33, rfl, hS27⟩
 obtain ⟨u28, rfl⟩ := selfA_u hq33
 try dsimp only at hO32
 refine gv1 41 45 (.bool b29) rfl hS27 ?_
 exact gd_to hK17 (by kernel_rfl) ⟨b29, selfA_i (by kernel_rfl), (sj hO32), hS27⟩
 intro hK34
 have hP35 : St _ _ w24 ([plE g0 zA zc A0_1 c0_1 zb zg zl zn p0_4 p0_5 p0_6 p0_7 p0_8 p0_9 p0_10 p0_11] ++ [rowE .u8 5 (some ⟨w5.heap.size, 0, none⟩) 1 ([28]), rowE .u8 5 (some ⟨w21.heap.size, 0, none⟩) 1 ([14])]) := hS25.pick [1, 0, 2] rfl rfl
 obtain ⟨b37, hc36, hE31⟩ := bind_in hE31
 try dsimp only at hE31
 refine gdC 18 ⟨some 22, _, _, _, _, _⟩ _ rfl (by kernel_rfl) (pIs_ok N zb zg zl zn p0_4 p0_5 p0_6 p0_7 p0_8 p0_9 p0_10 p0_11 zn ([14]) g0 zA zc A0_1 c0_1 (some ⟨w21.heap.size, 0, none⟩) 1 _ hc36 w24 (hP35.vwA hv0_0) (hP35.vwA hv0_1) (hP35.vwB 1 rfl) hP35.part) ?_
 rintro _ w38 ⟨rfl, hT40⟩
 have hS39 : St _ _ w38 [rowE .u8 5 (some ⟨w5.heap.size, 0, none⟩) 1 ([28]), rowE .u8 5 (some ⟨w21.heap.size, 0, none⟩) 1 ([14]), plE g0 zA zc A0_1 c0_1 zb zg zl zn p0_4 p0_5 p0_6 p0_7 p0_8 p0_9 p0_10 p0_11] := hP35.lendN _ hT40
 refine ⟨(hS39.pick [2] rfl rfl), gv1 19 23 (.bool b37) rfl (hS39.pick [2] rfl rfl) ?_⟩
 rcases b37 with _ | _
 try dsimp only at hE31
 refine gv1 20 24 (vP g0) rfl (hS39.pick [2] rfl rfl) (gv1 21 25 (vP g0) rfl (hS39.pick [2] rfl rfl) (gv1 22 26 (vP g0) rfl (hS39.pick [2] rfl rfl) (gv1 23 27 (vP g0) rfl (hS39.pick [2] rfl rfl) (gv1 24 28 (vP g0) rfl (hS39.pick [2] rfl rfl) (gv1 25 29 (vQ g0 3) rfl (hS39.pick [2] rfl rfl) (gu1 26 30 (i6 zn) rfl (hS39.pick [2] rfl rfl) (fun w hSw => rl1 (hSw.box 0 rfl 3 rfl)) (gdR 27 ⟨some 31, _, _, _, _, _⟩ rfl (st_made .u8 5 [11] hS39 (by show 1 ≤ 1000000000; decide) (by kernel_rfl)) ?_)))))))
 rintro _ w41 ⟨rfl, hS42⟩
 have hS42 : St _ _ w41 [rowE .u8 5 (some ⟨w5.heap.size, 0, none⟩) 1 ([28]), rowE .u8 5 (some ⟨w21.heap.size, 0, none⟩) 1 ([14]), plE g0 zA zc A0_1 c0_1 zb zg zl zn p0_4 p0_5 p0_6 p0_7 p0_8 p0_9 p0_10 p0_11, rowE .u8 5 (some ⟨w38.heap.size, 0, none⟩) 1 ([11])] := hS42
 refine ⟨(hS42.pick [2] rfl rfl), ?_⟩
 obtain ⟨c47, hE48, hO49⟩ := bind_in hE31
 refine gd_mid (fun a w => ∃ (b46 : Bool), selfA (fun u45 => ⟨((vP g0) :: undef :: (.int .u8 0) :: (.bool false) :: (vP g0) :: (vP g0) :: (vP g0) :: (vP g0) :: (vP g0) :: (vQ g0 2) :: (i6 zl) :: (u45 11) :: (.bool true) :: (.bool true) :: (vP g0) :: (vP g0) :: (vP g0) :: (vP g0) :: (vP g0) :: (vQ g0 3) :: (i6 zn) :: (u45 21) :: (.bool false) :: (.bool false) :: (vP g0) :: (vP g0) :: (vP g0) :: (vP g0) :: (vP g0) :: (vQ g0 3) :: (i6 zn) :: dd u45 31 12 ((.bool b46) :: un 14 ([]))).toArray, []⟩) a ∧ b46 = c47 ∧ St (foots [plE g0 zA zc A0_1 c0_1 zb zg zl zn p0_4 p0_5 p0_6 p0_7 p0_8 p0_9 p0_10 p0_11]) w0 w [plE g0 zA zc A0_1 c0_1 zb zg zl zn p0_4 p0_5 p0_6 p0_7 p0_8 p0_9 p0_10 p0_11]) 16 #[true, true, true, true, true, true, true, true, true, true, true, true, true, true, true, true, true, true, true, true, true, true, true, true, true, true, true, true, true, true, true, true, true, true, true, true, true, true, true, true, false, false, false, false, false, false, false, false, false, false, false, false, false, false, false, false] ?_ ?_
 rintro _ w43 ⟨b46, hq50, rfl, hS44⟩
 obtain ⟨u45, rfl⟩ := selfA_u hq50
 try dsimp only at hO49
 refine gv1 40 44 (.bool b46) rfl hS44 ?_
 exact gd_to hK34 (by kernel_rfl) ⟨b46, selfA_i (by kernel_rfl), (sj hO49), hS44⟩
 intro hK51
 have hP52 : St _ _ w41 ([plE g0 zA zc A0_1 c0_1 zb zg zl zn p0_4 p0_5 p0_6 p0_7 p0_8 p0_9 p0_10 p0_11] ++ [rowE .u8 5 (some ⟨w5.heap.size, 0, none⟩) 1 ([28]), rowE .u8 5 (some ⟨w21.heap.size, 0, none⟩) 1 ([14]), rowE .u8 5 (some ⟨w38.heap.size, 0, none⟩) 1 ([11])]) := hS42.pick [2, 0, 1, 3] rfl rfl
 obtain ⟨b54, hc53, hE48⟩ := bind_in hE48
 try dsimp only at hE48
 refine gdC 28 ⟨some 32, _, _, _, _, _⟩ _ rfl (by kernel_rfl) (pIs_ok N zb zg zl zn p0_4 p0_5 p0_6 p0_7 p0_8 p0_9 p0_10 p0_11 zn ([11]) g0 zA zc A0_1 c0_1 (some ⟨w38.heap.size, 0, none⟩) 1 _ hc53 w41 (hP52.vwA hv0_0) (hP52.vwA hv0_1) (hP52.vwB 2 rfl) hP52.part) ?_
 rintro _ w55 ⟨rfl, hT57⟩
 have hS56 : St _ _ w55 [rowE .u8 5 (some ⟨w5.heap.size, 0, none⟩) 1 ([28]), rowE .u8 5 (some ⟨w21.heap.size, 0, none⟩) 1 ([14]), rowE .u8 5 (some ⟨w38.heap.size, 0, none⟩) 1 ([11]), plE g0 zA zc A0_1 c0_1 zb zg zl zn p0_4 p0_5 p0_6 p0_7 p0_8 p0_9 p0_10 p0_11] := hP52.lendN _ hT57
 refine ⟨(hS56.pick [3] rfl rfl), gv1 29 33 (.bool b54) rfl (hS56.pick [3] rfl rfl) ?_⟩
 rcases b54 with _ | _
 try dsimp only at hE48
 refine gz1 30 34 rfl (hS56.pick [3] rfl rfl) (gz1 31 35 rfl (hS56.pick [3] rfl rfl) (gz1 32 36 rfl (hS56.pick [3] rfl rfl) (gz1 33 37 rfl (hS56.pick [3] rfl rfl) (gz1 34 38 rfl (hS56.pick [3] rfl rfl) (gz1 35 39 rfl (hS56.pick [3] rfl rfl) (gz1 36 40 rfl (hS56.pick [3] rfl rfl) (gz1 37 41 rfl (hS56.pick [3] rfl rfl) ?_)))))))
 refine gz1 38 42 rfl (hS56.pick [3] rfl rfl) (gv1 39 43 (.bool false) rfl (hS56.pick [3] rfl rfl) ?_)
 exact gd_to hK51 (by kernel_rfl) ⟨false, selfA_i (by kernel_rfl), (sj hE48), (hS56.pick [3] rfl rfl)⟩
 try dsimp only at hE48
 refine gv1 30 34 (vP g0) rfl (hS56.pick [3] rfl rfl) (gv1 31 35 (vP g0) rfl (hS56.pick [3] rfl rfl) (gv1 32 36 (vP g0) rfl (hS56.pick [3] rfl rfl) (gv1 33 37 (vP g0) rfl (hS56.pick [3] rfl rfl) (gv1 34 38 (vP g0) rfl (hS56.pick [3] rfl rfl) (gv1 35 39 (vQ g0 3) rfl (hS56.pick [3] rfl rfl) (gu1 36 40 (i6 zn) rfl (hS56.pick [3] rfl rfl) (fun w hSw => rl1 (hSw.box 0 rfl 3 rfl)) ?_))))))
 have hP58 : St _ _ w55 ([plE g0 zA zc A0_1 c0_1 zb zg zl zn p0_4 p0_5 p0_6 p0_7 p0_8 p0_9 p0_10 p0_11] ++ [rowE .u8 5 (some ⟨w5.heap.size, 0, none⟩) 1 ([28]), rowE .u8 5 (some ⟨w21.heap.size, 0, none⟩) 1 ([14]), rowE .u8 5 (some ⟨w38.heap.size, 0, none⟩) 1 ([11])]) := hS56.pick [3, 0, 1, 2] rfl rfl
 obtain ⟨b60, hc59, hE48⟩ := bind_in hE48
 try dsimp only at hE48
 refine gdC 37 ⟨some 41, _, _, _, _, _⟩ _ rfl (by kernel_rfl) (pWide_ok N zb zg zl zn p0_4 p0_5 p0_6 p0_7 p0_8 p0_9 p0_10 p0_11 zn g0 zA zc A0_1 c0_1 _ hc59 w55 (hP58.vwA hv0_0) (hP58.vwA hv0_1) hP58.part) ?_
 rintro _ w61 ⟨rfl, hT63⟩
 have hS62 : St _ _ w61 [rowE .u8 5 (some ⟨w5.heap.size, 0, none⟩) 1 ([28]), rowE .u8 5 (some ⟨w21.heap.size, 0, none⟩) 1 ([14]), rowE .u8 5 (some ⟨w38.heap.size, 0, none⟩) 1 ([11]), plE g0 zA zc A0_1 c0_1 zb zg zl zn p0_4 p0_5 p0_6 p0_7 p0_8 p0_9 p0_10 p0_11] := hP58.lendN _ hT63
 refine ⟨(hS62.pick [3] rfl rfl), ?_⟩
 rcases b60 with _ | _
 try dsimp only at hE48
 refine gv1 38 42 (.bool true) rfl (hS62.pick [3] rfl rfl) (gv1 39 43 (.bool true) rfl (hS62.pick [3] rfl rfl) ?_)
 exact gd_to hK51 (by kernel_rfl) ⟨true, selfA_i (by kernel_rfl), (sj hE48), (hS62.pick [3] rfl rfl)⟩
 try dsimp only at hE48
 refine gv1 38 42 (.bool false) rfl (hS62.pick [3] rfl rfl) (gv1 39 43 (.bool false) rfl (hS62.pick [3] rfl rfl) ?_)
 exact gd_to hK51 (by kernel_rfl) ⟨false, selfA_i (by kernel_rfl), (sj hE48), (hS62.pick [3] rfl rfl)⟩
 try dsimp only at hE31
 refine gz1 20 24 rfl (hS39.pick [2] rfl rfl) (gz1 21 25 rfl (hS39.pick [2] rfl rfl) (gz1 22 26 rfl (hS39.pick [2] rfl rfl) (gz1 23 27 rfl (hS39.pick [2] rfl rfl) (gz1 24 28 rfl (hS39.pick [2] rfl rfl) (gz1 25 29 rfl (hS39.pick [2] rfl rfl) (gz1 26 30 rfl (hS39.pick [2] rfl rfl) (gz1 27 31 rfl (hS39.pick [2] rfl rfl) ?_)))))))
 refine gz1 28 32 rfl (hS39.pick [2] rfl rfl) (gz1 29 33 rfl (hS39.pick [2] rfl rfl) (gz1 30 34 rfl (hS39.pick [2] rfl rfl) (gz1 31 35 rfl (hS39.pick [2] rfl rfl) (gz1 32 36 rfl (hS39.pick [2] rfl rfl) (gz1 33 37 rfl (hS39.pick [2] rfl rfl) (gz1 34 38 rfl (hS39.pick [2] rfl rfl) (gz1 35 39 rfl (hS39.pick [2] rfl rfl) ?_)))))))
 refine gz1 36 40 rfl (hS39.pick [2] rfl rfl) (gz1 37 41 rfl (hS39.pick [2] rfl rfl) (gz1 38 42 rfl (hS39.pick [2] rfl rfl) (gz1 39 43 rfl (hS39.pick [2] rfl rfl) (gv1 40 44 (.bool true) rfl (hS39.pick [2] rfl rfl) ?_))))
 exact gd_to hK34 (by kernel_rfl) ⟨true, selfA_i (by kernel_rfl), (sj hE31), (hS39.pick [2] rfl rfl)⟩
end Go.Proofs.YtdbimchiecdkoaaGreat
