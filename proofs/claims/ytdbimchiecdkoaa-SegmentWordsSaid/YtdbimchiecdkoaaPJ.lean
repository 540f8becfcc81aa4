/-
  The program, walked.
-/
import Derived.Test.YtdbimchiecdkoaaP0
namespace Go.Proofs.Ytdbimchiecdkoaa
open Go Go.RowKit
set_option linter.unusedVariables false
def pJoined (N : Nat) (p0_0 : List Int) (_p0_1 : List Int) (_p0_2 : Int) (_p0_3 : Int) (p0_4 : Int) (_p0_5 : Int) (_p0_6 : Int) (_p0_7 : Int) (_p0_8 : Int) (_p0_9 : Bool) (_p0_10 : Bool) (_p0_11 : Bool) : Option (Bool) :=
 ((ix p0_0 (IntKind.i64.wrap (p0_4 - 1))).bind fun x7 => ((ucBk N x7).bind fun x11 => some (decide (x11 = 10))))
set_option linter.unusedVariables false in
def pJoined_R (p0_0 : List Int) (p0_1 : List Int) (p0_2 : Int) (p0_3 : Int) (p0_4 : Int) (p0_5 : Int) (p0_6 : Int) (p0_7 : Int) (p0_8 : Int) (p0_9 : Bool) (p0_10 : Bool) (p0_11 : Bool) (g0 : Nat) (A0_0 : Option Addr) (c0_0 : Nat) (A0_1 : Option Addr) (c0_1 : Nat) (r : Bool) (w0 : World) (v : Value) (w : World) : Prop := v = .bool r ∧ St (foots [plE g0 A0_0 c0_0 A0_1 c0_1 p0_0 p0_1 p0_2 p0_3 p0_4 p0_5 p0_6 p0_7 p0_8 p0_9 p0_10 p0_11]) w0 w [plE g0 A0_0 c0_0 A0_1 c0_1 p0_0 p0_1 p0_2 p0_3 p0_4 p0_5 p0_6 p0_7 p0_8 p0_9 p0_10 p0_11]
set_option maxRecDepth 100000 in
set_option maxHeartbeats 4000000 in
theorem pJoined_ok (N : Nat) (p0_0 : List Int) (p0_1 : List Int) (p0_2 : Int) (p0_3 : Int) (p0_4 : Int) (p0_5 : Int) (p0_6 : Int) (p0_7 : Int) (p0_8 : Int) (p0_9 : Bool) (p0_10 : Bool) (p0_11 : Bool) (g0 : Nat) (A0_0 : Option Addr) (c0_0 : Nat) (A0_1 : Option Addr) (c0_1 : Nat) (r : Bool) (hF : pJoined N p0_0 p0_1 p0_2 p0_3 p0_4 p0_5 p0_6 p0_7 p0_8 p0_9 p0_10 p0_11 = some r) (w0 : World) (hv0_0 : Vw (foots [plE g0 A0_0 c0_0 A0_1 c0_1 p0_0 p0_1 p0_2 p0_3 p0_4 p0_5 p0_6 p0_7 p0_8 p0_9 p0_10 p0_11]) .i32 w0 A0_0 c0_0 p0_0) (_hv0_1 : Vw (foots [plE g0 A0_0 c0_0 A0_1 c0_1 p0_0 p0_1 p0_2 p0_3 p0_4 p0_5 p0_6 p0_7 p0_8 p0_9 p0_10 p0_11]) .u8 w0 A0_1 c0_1 p0_1) (hl : St (foots [plE g0 A0_0 c0_0 A0_1 c0_1 p0_0 p0_1 p0_2 p0_3 p0_4 p0_5 p0_6 p0_7 p0_8 p0_9 p0_10 p0_11]) w0 w0 [plE g0 A0_0 c0_0 A0_1 c0_1 p0_0 p0_1 p0_2 p0_3 p0_4 p0_5 p0_6 p0_7 p0_8 p0_9 p0_10 p0_11]) :
  Calls Try.prog 91 #[.pointer (some ⟨g0, 0, none⟩)] w0 fun e w => ∃ v, e = .returned v ∧ pJoined_R p0_0 p0_1 p0_2 p0_3 p0_4 p0_5 p0_6 p0_7 p0_8 p0_9 p0_10 p0_11 g0 A0_0 c0_0 A0_1 c0_1 r w0 v w := by
 have hS0 := hl
 unfold pJoined at hF
 refine calls_of Try.func91 rfl ⟨((.pointer (some ⟨g0, 0, none⟩)) :: un 16 ([])).toArray, []⟩ (by kernel_rfl) ?_
 refine gx_seq (fun K1 hK2 => ?_)
 refine gx_region ?_
 refine gx_k (.bool false) w0 ?_
 refine gx_nil ?_
 refine gx_thenN ?_
 refine hK2 _ _ ?_
 refine gx_seq (fun K3 hK4 => ?_)
 refine gd_start (fun w => St (foots [plE g0 A0_0 c0_0 A0_1 c0_1 p0_0 p0_1 p0_2 p0_3 p0_4 p0_5 p0_6 p0_7 p0_8 p0_9 p0_10 p0_11]) w0 w [plE g0 A0_0 c0_0 A0_1 c0_1 p0_0 p0_1 p0_2 p0_3 p0_4 p0_5 p0_6 p0_7 p0_8 p0_9 p0_10 p0_11]) 15 #[false, false, false, false, false, false, false, false, false, false, false, false, false, false, false] (by kernel_rfl) (by kernel_rfl) ?_
 have hS6 := hS0.drew
 generalize w0.drew = w5 at hS6 ⊢
 refine gv1 0 3 (.pointer (some ⟨g0, 0, none⟩)) rfl hS6 ?_
 refine gv1 1 4 (.pointer (some ⟨g0, 0, none⟩)) rfl hS6 ?_
 refine gv1 2 5 (.pointer (some ⟨g0, 0, none⟩)) rfl hS6 ?_
 refine gv1 3 6 (.pointer (some ⟨g0, 0, none⟩)) rfl hS6 ?_
 refine gu1 4 7 (.slice A0_0 p0_0.length c0_0) rfl hS6 (fun w hSw => run_load1 rfl (by kernel_rfl) (fun _ => by kernel_rfl) (hSw.box 0 rfl 0 rfl)) ?_
 refine gv1 5 8 (.pointer (some ⟨g0, 0, none⟩)) rfl hS6 ?_
 refine gv1 6 9 (.pointer (some ⟨g0, 0, none⟩)) rfl hS6 ?_
 refine gv1 7 10 (.pointer (some ⟨g0, 4, none⟩)) rfl hS6 ?_
 refine gu1 8 11 (.int .i64 p0_4) rfl hS6 (fun w hSw => run_load1 rfl (by kernel_rfl) (fun _ => by kernel_rfl) (hSw.box 0 rfl 4 rfl)) ?_
 refine gv1 9 12 (.int .i64 (IntKind.i64.wrap (p0_4 - 1))) rfl hS6 ?_
 obtain ⟨x7, hx8, hF⟩ := bind_in hF
 refine gu1 10 13 (.pointer (Option.map (fun (p : Addr) => p.add (Int.toNat (IntKind.i64.wrap (p0_4 - 1)) * 1)) A0_0)) rfl hS6 (fun w hSw => run_ixaddr (E := 21) (s := 1) (k := .i64) (c := c0_0) rfl (by kernel_rfl) (by kernel_rfl) (by kernel_rfl) (fun _ => by kernel_rfl) (ix_in hx8).1 (ix_in hx8).2.1 (num_nil (hS6.view hv0_0))) ?_
 refine gu1 11 14 (.int .i32 x7) rfl hS6 (fun w hSw => run_loadix rfl (by kernel_rfl) (fun _ => by kernel_rfl) (hSw.view hv0_0) hx8) ?_
 have hP9 : St _ _ w5 ([] ++ [plE g0 A0_0 c0_0 A0_1 c0_1 p0_0 p0_1 p0_2 p0_3 p0_4 p0_5 p0_6 p0_7 p0_8 p0_9 p0_10 p0_11]) := hS6
 obtain ⟨x11, hc10, hF⟩ := bind_in hF
 try dsimp only at hF
 refine gdC 12 { dst := some 15, op := _, type := _, pos := _, after := _, guard := _ } (ucBk_R x11 w5) rfl (by kernel_rfl) (ucBk_ok N x7 _ hc10 w5 ) ?_
 rintro _ w12 ⟨rfl, hT14⟩
 have hS13 : St _ _ w12 [plE g0 A0_0 c0_0 A0_1 c0_1 p0_0 p0_1 p0_2 p0_3 p0_4 p0_5 p0_6 p0_7 p0_8 p0_9 p0_10 p0_11] := hS6.take _ hT14
 refine ⟨hS13, ?_⟩
 refine gv1 13 16 (.bool (decide (x11 = 10))) rfl hS13 ?_
 refine gv1 14 2 (.bool (decide (x11 = 10))) rfl hS13 ?_
 refine gd_done (by kernel_rfl) ?_
 refine gx_thenN ?_
 refine hK4 _ _ ?_
 refine gx_ret ?_
 obtain rfl := Option.some.inj hF
 exact gx_fin (.bool (decide (x11 = 10))) (by kernel_rfl) (by kernel_rfl) ⟨_, rfl, rfl, hS13⟩
end Go.Proofs.Ytdbimchiecdkoaa
