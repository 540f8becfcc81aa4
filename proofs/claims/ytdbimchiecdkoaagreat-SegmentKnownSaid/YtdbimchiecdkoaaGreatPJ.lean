/-
  The program, walked.
-/
import Derived.Test.YtdbimchiecdkoaaGreatP0
namespace Go.Proofs.YtdbimchiecdkoaaGreat
open Go Go.RowKit
set_option maxRecDepth 100000
set_option maxHeartbeats 4000000
set_option linter.unusedVariables false
def pJoined (N : Nat) (zb : List Int) (_p0_1 : List Int) (_p0_2 : Int) (_p0_3 : Int) (p0_4 : Int) (_p0_5 : Int) (_p0_6 : Int) (_p0_7 : Int) (_p0_8 : Int) (_p0_9 : Bool) (_p0_10 : Bool) (_p0_11 : Bool) : Option (Bool) :=
 ((ix zb (IntKind.i64.wrap (p0_4 - 1))).bind fun x7 => ((ucBk N x7).bind fun x11 => some (decide (x11 = 10))))
def pJoined_R (zb : List Int) (zg : List Int) (zl : Int) (zn : Int) (p0_4 : Int) (p0_5 : Int) (p0_6 : Int) (p0_7 : Int) (p0_8 : Int) (p0_9 : Bool) (p0_10 : Bool) (p0_11 : Bool) (g0 : Nat) (zA : Option Addr) (zc : Nat) (A0_1 : Option Addr) (c0_1 : Nat) (r : Bool) (w0 : World) (v : Value) (w : World) : Prop := v = .bool r ∧ St (foots [plE g0 zA zc A0_1 c0_1 zb zg zl zn p0_4 p0_5 p0_6 p0_7 p0_8 p0_9 p0_10 p0_11]) w0 w [plE g0 zA zc A0_1 c0_1 zb zg zl zn p0_4 p0_5 p0_6 p0_7 p0_8 p0_9 p0_10 p0_11]
theorem pJoined_ok (N : Nat) (zb : List Int) (zg : List Int) (zl : Int) (zn : Int) (p0_4 : Int) (p0_5 : Int) (p0_6 : Int) (p0_7 : Int) (p0_8 : Int) (p0_9 : Bool) (p0_10 : Bool) (p0_11 : Bool) (g0 : Nat) (zA : Option Addr) (zc : Nat) (A0_1 : Option Addr) (c0_1 : Nat) (r : Bool) (hF : pJoined N zb zg zl zn p0_4 p0_5 p0_6 p0_7 p0_8 p0_9 p0_10 p0_11 = some r) (w0 : World) (hv0_0 : Vw (foots [plE g0 zA zc A0_1 c0_1 zb zg zl zn p0_4 p0_5 p0_6 p0_7 p0_8 p0_9 p0_10 p0_11]) .i32 w0 zA zc zb) (_hv0_1 : Vw (foots [plE g0 zA zc A0_1 c0_1 zb zg zl zn p0_4 p0_5 p0_6 p0_7 p0_8 p0_9 p0_10 p0_11]) .u8 w0 A0_1 c0_1 zg) (hl : St (foots [plE g0 zA zc A0_1 c0_1 zb zg zl zn p0_4 p0_5 p0_6 p0_7 p0_8 p0_9 p0_10 p0_11]) w0 w0 [plE g0 zA zc A0_1 c0_1 zb zg zl zn p0_4 p0_5 p0_6 p0_7 p0_8 p0_9 p0_10 p0_11]) :
  Calls Tryz.prog 75 #[.pointer (some ⟨g0, 0, none⟩)] w0 fun e w => ∃ v, e = .returned v ∧ pJoined_R zb zg zl zn p0_4 p0_5 p0_6 p0_7 p0_8 p0_9 p0_10 p0_11 g0 zA zc A0_1 c0_1 r w0 v w := by
 have hS0 := hl
 unfold pJoined at hF
 refine calls_of Tryz.func75 rfl ⟨((vP g0) :: un 16 ([])).toArray, []⟩ (by kernel_rfl) (gx_seq (fun K1 hK2 => gx_region (gx_k (.bool false) w0 (gx_nil (gx_thenN (hK2 _ _ (gx_seq (fun K3 hK4 => ?_))))))))
 refine gdst (fun w => St (foots [plE g0 zA zc A0_1 c0_1 zb zg zl zn p0_4 p0_5 p0_6 p0_7 p0_8 p0_9 p0_10 p0_11]) w0 w [plE g0 zA zc A0_1 c0_1 zb zg zl zn p0_4 p0_5 p0_6 p0_7 p0_8 p0_9 p0_10 p0_11]) 15 ?_
 have hS6 := hS0.drew
 generalize w0.drew = w5 at hS6 ⊢
 refine gv1 0 3 (vP g0) rfl hS6 (gv1 1 4 (vP g0) rfl hS6 (gv1 2 5 (vP g0) rfl hS6 (gv1 3 6 (vP g0) rfl hS6 (gu1 4 7 (.slice zA zb.length zc) rfl hS6 (fun w hSw => rl1 (hSw.box 0 rfl 0 rfl)) (gv1 5 8 (vP g0) rfl hS6 (gv1 6 9 (vP g0) rfl hS6 (gv1 7 10 (vQ g0 4) rfl hS6 ?_)))))))
 refine gu1 8 11 (i6 p0_4) rfl hS6 (fun w hSw => rl1 (hSw.box 0 rfl 4 rfl)) (gv1 9 12 (i6 (iw (p0_4 - 1))) rfl hS6 ?_)
 obtain ⟨x7, hx8, hF⟩ := bind_in hF
 refine gu1 10 13 (pI (iw (p0_4 - 1)) zA) rfl hS6 (fun w hSw => rix 21 .i64 hx8 ((hS6.view hv0_0))) (gu1 11 14 (.int .i32 x7) rfl hS6 (fun w hSw => rlx (hSw.view hv0_0) hx8) ?_)
 have hP9 : St _ _ w5 ([] ++ [plE g0 zA zc A0_1 c0_1 zb zg zl zn p0_4 p0_5 p0_6 p0_7 p0_8 p0_9 p0_10 p0_11]) := hS6
 obtain ⟨x11, hc10, hF⟩ := bind_in hF
 try dsimp only at hF
 refine gdC 12 ⟨some 15, _, _, _, _, _⟩ _ rfl (by kernel_rfl) (ucBk_ok N x7 _ hc10 w5 ) ?_
 rintro _ w12 ⟨rfl, hT14⟩
 have hS13 : St _ _ w12 [plE g0 zA zc A0_1 c0_1 zb zg zl zn p0_4 p0_5 p0_6 p0_7 p0_8 p0_9 p0_10 p0_11] := hS6.take _ hT14
 refine ⟨hS13, gv1 13 16 (.bool (decide (x11 = 10))) rfl hS13 (gv1 14 2 (.bool (decide (x11 = 10))) rfl hS13 (gd_done (by kernel_rfl) (gx_thenN (hK4 _ _ (gx_ret ?_)))))⟩
 obtain rfl := sj hF
 exact gxF (.bool (decide (x11 = 10))) ⟨_, rfl, rfl, hS13⟩
end Go.Proofs.YtdbimchiecdkoaaGreat
