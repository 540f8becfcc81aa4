/-
  The program, walked.
-/
import Derived.Test.YtdbimchiecdkoaaGw
namespace Go.Proofs.Ytdbimchiecdkoaa
open Go Go.RowKit
set_option linter.unusedVariables false
def pGoOn (N : Nat) (p0_0 : List Int) (p0_1 : List Int) (p0_2 : Int) (p0_3 : Int) (p0_4 : Int) (p0_5 : Int) (p0_6 : Int) (p0_7 : Int) (p0_8 : Int) (p0_9 : Bool) (p0_10 : Bool) (p0_11 : Bool) : Option (Int × Int × Int × Int × Int × Int × Int × Bool × Bool × Bool) :=
 ((pNext N p0_0 p0_1 p0_2 p0_3 p0_4 p0_5 p0_6 p0_7 p0_8 p0_9 p0_10 p0_11 p0_6).bind fun x7 => ((((pIs N p0_0 p0_1 p0_3 p0_4 p0_5 p0_6 x7 p0_7 p0_8 p0_9 p0_10 p0_11 p0_4 ([5])).bind fun b37 => (match b37 with | true => some ((p0_7, p0_8)) | false => some ((p0_3, p0_4)))) : Option (Int × Int)).bind fun (x24, x25) => ((((pIs N p0_0 p0_1 p0_3 p0_4 p0_5 p0_6 x7 x24 x25 p0_10 p0_10 p0_11 p0_4 ([27])).bind fun b64 => (match b64 with | true => some (true) | false => (match p0_10 with | true => ((pIs N p0_0 p0_1 p0_3 p0_4 p0_5 p0_6 x7 x24 x25 true true p0_11 p0_4 ([24, 23])).bind fun b74 => some (b74)) | false => some (false)))) : Option (Bool)).bind fun b54 => ((pIs N p0_0 p0_1 p0_3 p0_4 p0_5 p0_6 x7 x24 x25 p0_10 b54 p0_11 p0_4 ([32])).bind fun b88 => (match b88 with | true => some (p0_3, p0_4, p0_5, p0_6, x7, x24, x25, p0_10, b54, (!p0_11)) | false => some (p0_3, p0_4, p0_5, p0_6, x7, x24, x25, p0_10, b54, false))))))
set_option linter.unusedVariables false in
def pGoOn_R (p0_0 : List Int) (p0_1 : List Int) (p0_2 : Int) (p0_3 : Int) (p0_4 : Int) (p0_5 : Int) (p0_6 : Int) (p0_7 : Int) (p0_8 : Int) (p0_9 : Bool) (p0_10 : Bool) (p0_11 : Bool) (g0 : Nat) (A0_0 : Option Addr) (c0_0 : Nat) (A0_1 : Option Addr) (c0_1 : Nat) (r : Int × Int × Int × Int × Int × Int × Int × Bool × Bool × Bool) (w0 : World) (v : Value) (w : World) : Prop := v = .tuple #[] ∧ St (foots [plE g0 A0_0 c0_0 A0_1 c0_1 p0_0 p0_1 p0_2 p0_3 p0_4 p0_5 p0_6 p0_7 p0_8 p0_9 p0_10 p0_11]) w0 w [boxE g0 [.slice A0_0 p0_0.length c0_0, .slice A0_1 p0_1.length c0_1, .int .i64 r.1, .int .i64 r.2.1, .int .i64 r.2.2.1, .int .i64 r.2.2.2.1, .int .i64 r.2.2.2.2.1, .int .i64 r.2.2.2.2.2.1, .int .i64 r.2.2.2.2.2.2.1, .bool r.2.2.2.2.2.2.2.1, .bool r.2.2.2.2.2.2.2.2.1, .bool r.2.2.2.2.2.2.2.2.2] 49]
set_option maxRecDepth 100000 in
set_option maxHeartbeats 4000000 in
theorem pGoOn_ok (N : Nat) (p0_0 : List Int) (p0_1 : List Int) (p0_2 : Int) (p0_3 : Int) (p0_4 : Int) (p0_5 : Int) (p0_6 : Int) (p0_7 : Int) (p0_8 : Int) (p0_9 : Bool) (p0_10 : Bool) (p0_11 : Bool) (g0 : Nat) (A0_0 : Option Addr) (c0_0 : Nat) (A0_1 : Option Addr) (c0_1 : Nat) (r : Int × Int × Int × Int × Int × Int × Int × Bool × Bool × Bool) (hF : pGoOn N p0_0 p0_1 p0_2 p0_3 p0_4 p0_5 p0_6 p0_7 p0_8 p0_9 p0_10 p0_11 = some r) (w0 : World) (hv0_0 : Vw (foots [plE g0 A0_0 c0_0 A0_1 c0_1 p0_0 p0_1 p0_2 p0_3 p0_4 p0_5 p0_6 p0_7 p0_8 p0_9 p0_10 p0_11]) .i32 w0 A0_0 c0_0 p0_0) (hv0_1 : Vw (foots [plE g0 A0_0 c0_0 A0_1 c0_1 p0_0 p0_1 p0_2 p0_3 p0_4 p0_5 p0_6 p0_7 p0_8 p0_9 p0_10 p0_11]) .u8 w0 A0_1 c0_1 p0_1) (hl : St (foots [plE g0 A0_0 c0_0 A0_1 c0_1 p0_0 p0_1 p0_2 p0_3 p0_4 p0_5 p0_6 p0_7 p0_8 p0_9 p0_10 p0_11]) w0 w0 [plE g0 A0_0 c0_0 A0_1 c0_1 p0_0 p0_1 p0_2 p0_3 p0_4 p0_5 p0_6 p0_7 p0_8 p0_9 p0_10 p0_11]) :
  Calls Try.prog 19 #[.pointer (some ⟨g0, 0, none⟩)] w0 fun e w => ∃ v, e = .returned v ∧ pGoOn_R p0_0 p0_1 p0_2 p0_3 p0_4 p0_5 p0_6 p0_7 p0_8 p0_9 p0_10 p0_11 g0 A0_0 c0_0 A0_1 c0_1 r w0 v w := by
 have hS0 := hl
 unfold pGoOn at hF
 refine calls_of Try.func19 rfl ⟨((.pointer (some ⟨g0, 0, none⟩)) :: un 119 ([])).toArray, []⟩ (by kernel_rfl) ?_
 refine gx_seq (fun K1 hK2 => ?_)
 refine gk_start 31 (fun w => St (foots [plE g0 A0_0 c0_0 A0_1 c0_1 p0_0 p0_1 p0_2 p0_3 p0_4 p0_5 p0_6 p0_7 p0_8 p0_9 p0_10 p0_11]) w0 w [plE g0 A0_0 c0_0 A0_1 c0_1 p0_0 p0_1 p0_2 p0_3 p0_4 p0_5 p0_6 p0_7 p0_8 p0_9 p0_10 p0_11]) (fun w => St (foots [plE g0 A0_0 c0_0 A0_1 c0_1 p0_0 p0_1 p0_2 p0_3 p0_4 p0_5 p0_6 p0_7 p0_8 p0_9 p0_10 p0_11]) w0 w []) 44 #[false, false, false, false, false, false, false, false, false, false, false, false, false, false, false, false, false, false, false, false, false, false, false, false, false, false, false, false, false, false, false, false, false, false, false, false, false, false, false, false, false, false, false, false] (by kernel_rfl) (by kernel_rfl) ?_
 have hS4 := hS0.drew
 generalize w0.drew = w3 at hS4 ⊢
 refine gk1 0 { dst := some 2, op := _, type := _, pos := _, after := _, guard := _ } (.pointer (some ⟨g0, 0, none⟩)) rfl hS4 (fun w hSw => by kernel_rfl) ?_
 refine gk1f 1 { dst := some 3, op := _, type := _, pos := _, after := _, guard := _ } (.pointer (some ⟨g0, 0, none⟩)) rfl hS4 (fun w => by kernel_rfl) ?_
 refine gk1f 2 { dst := some 4, op := _, type := _, pos := _, after := _, guard := _ } (.pointer (some ⟨g0, 0, none⟩)) rfl hS4 (fun w => by kernel_rfl) ?_
 refine gk1f 3 { dst := some 5, op := _, type := _, pos := _, after := _, guard := _ } (.pointer (some ⟨g0, 0, none⟩)) rfl hS4 (fun w => by kernel_rfl) ?_
 refine gk1f 4 { dst := some 6, op := _, type := _, pos := _, after := _, guard := _ } (.pointer (some ⟨g0, 0, none⟩)) rfl hS4 (fun w => by kernel_rfl) ?_
 refine gk1 5 { dst := some 7, op := _, type := _, pos := _, after := _, guard := _ } (.pointer (some ⟨g0, 0, none⟩)) rfl hS4 (fun w hSw => by kernel_rfl) ?_
 refine gk1 6 { dst := some 8, op := _, type := _, pos := _, after := _, guard := _ } (.pointer (some ⟨g0, 0, none⟩)) rfl hS4 (fun w hSw => by kernel_rfl) ?_
 refine gk1 7 { dst := some 9, op := _, type := _, pos := _, after := _, guard := _ } (.pointer (some ⟨g0, 3, none⟩)) rfl hS4 (fun w hSw => by kernel_rfl) ?_
 refine gk1 8 { dst := some 10, op := _, type := _, pos := _, after := _, guard := _ } (.int .i64 p0_3) rfl hS4 (fun w hSw => run_load1 rfl (by kernel_rfl) (fun _ => by kernel_rfl) (hSw.box 0 rfl 3 rfl)) ?_
 refine gk1f 9 { dst := some 11, op := _, type := _, pos := _, after := _, guard := _ } (.pointer (some ⟨g0, 0, none⟩)) rfl hS4 (fun w => by kernel_rfl) ?_
 refine gk1f 10 { dst := some 12, op := _, type := _, pos := _, after := _, guard := _ } (.pointer (some ⟨g0, 0, none⟩)) rfl hS4 (fun w => by kernel_rfl) ?_
 refine gk1f 11 { dst := some 13, op := _, type := _, pos := _, after := _, guard := _ } (.pointer (some ⟨g0, 4, none⟩)) rfl hS4 (fun w => by kernel_rfl) ?_
 refine gk1 12 { dst := some 14, op := _, type := _, pos := _, after := _, guard := _ } (.int .i64 p0_4) rfl hS4 (fun w hSw => run_load1 rfl (by kernel_rfl) (fun _ => by kernel_rfl) (hSw.box 0 rfl 4 rfl)) ?_
 refine gk1f 13 { dst := some 15, op := _, type := _, pos := _, after := _, guard := _ } (.pointer (some ⟨g0, 0, none⟩)) rfl hS4 (fun w => by kernel_rfl) ?_
 refine gk1f 14 { dst := some 16, op := _, type := _, pos := _, after := _, guard := _ } (.pointer (some ⟨g0, 0, none⟩)) rfl hS4 (fun w => by kernel_rfl) ?_
 refine gk1f 15 { dst := some 17, op := _, type := _, pos := _, after := _, guard := _ } (.pointer (some ⟨g0, 5, none⟩)) rfl hS4 (fun w => by kernel_rfl) ?_
 refine gk1 16 { dst := some 18, op := _, type := _, pos := _, after := _, guard := _ } (.int .i64 p0_5) rfl hS4 (fun w hSw => run_load1 rfl (by kernel_rfl) (fun _ => by kernel_rfl) (hSw.box 0 rfl 5 rfl)) ?_
 refine gk1f 17 { dst := some 19, op := _, type := _, pos := _, after := _, guard := _ } (.pointer (some ⟨g0, 0, none⟩)) rfl hS4 (fun w => by kernel_rfl) ?_
 refine gk1f 18 { dst := some 20, op := _, type := _, pos := _, after := _, guard := _ } (.pointer (some ⟨g0, 0, none⟩)) rfl hS4 (fun w => by kernel_rfl) ?_
 refine gk1f 19 { dst := some 21, op := _, type := _, pos := _, after := _, guard := _ } (.pointer (some ⟨g0, 6, none⟩)) rfl hS4 (fun w => by kernel_rfl) ?_
 refine gk1 20 { dst := some 22, op := _, type := _, pos := _, after := _, guard := _ } (.int .i64 p0_6) rfl hS4 (fun w hSw => run_load1 rfl (by kernel_rfl) (fun _ => by kernel_rfl) (hSw.box 0 rfl 6 rfl)) ?_
 refine gk1f 21 { dst := some 23, op := _, type := _, pos := _, after := _, guard := _ } (.pointer (some ⟨g0, 0, none⟩)) rfl hS4 (fun w => by kernel_rfl) ?_
 refine gk1f 22 { dst := some 24, op := _, type := _, pos := _, after := _, guard := _ } (.pointer (some ⟨g0, 0, none⟩)) rfl hS4 (fun w => by kernel_rfl) ?_
 refine gk1f 23 { dst := some 25, op := _, type := _, pos := _, after := _, guard := _ } (.pointer (some ⟨g0, 0, none⟩)) rfl hS4 (fun w => by kernel_rfl) ?_
 refine gk1f 24 { dst := some 26, op := _, type := _, pos := _, after := _, guard := _ } (.pointer (some ⟨g0, 0, none⟩)) rfl hS4 (fun w => by kernel_rfl) ?_
 refine gk1f 25 { dst := some 27, op := _, type := _, pos := _, after := _, guard := _ } (.pointer (some ⟨g0, 0, none⟩)) rfl hS4 (fun w => by kernel_rfl) ?_
 refine gk1f 26 { dst := some 28, op := _, type := _, pos := _, after := _, guard := _ } (.pointer (some ⟨g0, 6, none⟩)) rfl hS4 (fun w => by kernel_rfl) ?_
 refine gk1 27 { dst := some 29, op := _, type := _, pos := _, after := _, guard := _ } (.int .i64 p0_6) rfl hS4 (fun w hSw => run_load1 rfl (by kernel_rfl) (fun _ => by kernel_rfl) (hSw.box 0 rfl 6 rfl)) ?_
 have hP5 : St _ _ w3 ([plE g0 A0_0 c0_0 A0_1 c0_1 p0_0 p0_1 p0_2 p0_3 p0_4 p0_5 p0_6 p0_7 p0_8 p0_9 p0_10 p0_11] ++ []) := hS4
 obtain ⟨x7, hc6, hF⟩ := bind_in hF
 try dsimp only at hF
 refine gkC 28 { dst := some 30, op := _, type := _, pos := _, after := _, guard := _ } (pNext_R p0_0 p0_1 p0_2 p0_3 p0_4 p0_5 p0_6 p0_7 p0_8 p0_9 p0_10 p0_11 p0_6 g0 A0_0 c0_0 A0_1 c0_1 x7 w3) rfl (by kernel_rfl) (pNext_ok N p0_0 p0_1 p0_2 p0_3 p0_4 p0_5 p0_6 p0_7 p0_8 p0_9 p0_10 p0_11 p0_6 g0 A0_0 c0_0 A0_1 c0_1 _ hc6 w3 (hP5.vwA hv0_0) (hP5.vwA hv0_1) hP5.part) ?_
 rintro _ w8 ⟨rfl, hT10⟩
 have hS9 : St _ _ w8 [plE g0 A0_0 c0_0 A0_1 c0_1 p0_0 p0_1 p0_2 p0_3 p0_4 p0_5 p0_6 p0_7 p0_8 p0_9 p0_10 p0_11] := hP5.lendN _ hT10
 refine ⟨hS9, ?_⟩
 refine gk1f 29 { dst := some 31, op := _, type := _, pos := _, after := _, guard := _ } (.pointer (some ⟨g0, 0, none⟩)) rfl hS9 (fun w => by kernel_rfl) ?_
 refine gk1 30 { dst := some 32, op := _, type := _, pos := _, after := _, guard := _ } (.pointer (some ⟨g0, 2, none⟩)) rfl hS9 (fun w hSw => by kernel_rfl) ?_
 refine gkS { dst := none, op := _, type := _, pos := _, after := _, guard := _ } rfl (st_store (j := 2) (v := (.int .i64 p0_3)) rfl (by kernel_rfl) (by kernel_rfl) rfl (fun _ => by kernel_rfl) hS9 0 rfl (by show 2 < 12; decide)) ?_
 rintro w11 hS12
 have hS12 : St _ _ w11 [boxE g0 [.slice A0_0 p0_0.length c0_0, .slice A0_1 p0_1.length c0_1, .int .i64 p0_3, .int .i64 p0_3, .int .i64 p0_4, .int .i64 p0_5, .int .i64 p0_6, .int .i64 p0_7, .int .i64 p0_8, .bool p0_9, .bool p0_10, .bool p0_11] 49] := hS12
 refine ⟨(hS12.pick [] rfl rfl), ?_⟩
 refine gv1 32 33 (.pointer (some ⟨g0, 0, none⟩)) rfl (hS12.pick [] rfl rfl) ?_
 refine gv1 33 34 (.pointer (some ⟨g0, 3, none⟩)) rfl (hS12.pick [] rfl rfl) ?_
 refine gdS 34 { dst := none, op := _, type := _, pos := _, after := _, guard := _ } rfl (st_store (j := 3) (v := (.int .i64 p0_4)) rfl (by kernel_rfl) (by kernel_rfl) rfl (fun _ => by kernel_rfl) hS12 0 rfl (by show 3 < 12; decide)) ?_
 rintro w13 hS14
 have hS14 : St _ _ w13 [boxE g0 [.slice A0_0 p0_0.length c0_0, .slice A0_1 p0_1.length c0_1, .int .i64 p0_3, .int .i64 p0_4, .int .i64 p0_4, .int .i64 p0_5, .int .i64 p0_6, .int .i64 p0_7, .int .i64 p0_8, .bool p0_9, .bool p0_10, .bool p0_11] 49] := hS14
 refine ⟨(hS14.pick [] rfl rfl), ?_⟩
 refine gv1 35 35 (.pointer (some ⟨g0, 0, none⟩)) rfl (hS14.pick [] rfl rfl) ?_
 refine gv1 36 36 (.pointer (some ⟨g0, 4, none⟩)) rfl (hS14.pick [] rfl rfl) ?_
 refine gdS 37 { dst := none, op := _, type := _, pos := _, after := _, guard := _ } rfl (st_store (j := 4) (v := (.int .i64 p0_5)) rfl (by kernel_rfl) (by kernel_rfl) rfl (fun _ => by kernel_rfl) hS14 0 rfl (by show 4 < 12; decide)) ?_
 rintro w15 hS16
 have hS16 : St _ _ w15 [boxE g0 [.slice A0_0 p0_0.length c0_0, .slice A0_1 p0_1.length c0_1, .int .i64 p0_3, .int .i64 p0_4, .int .i64 p0_5, .int .i64 p0_5, .int .i64 p0_6, .int .i64 p0_7, .int .i64 p0_8, .bool p0_9, .bool p0_10, .bool p0_11] 49] := hS16
 refine ⟨(hS16.pick [] rfl rfl), ?_⟩
 refine gv1 38 37 (.pointer (some ⟨g0, 0, none⟩)) rfl (hS16.pick [] rfl rfl) ?_
 refine gv1 39 38 (.pointer (some ⟨g0, 5, none⟩)) rfl (hS16.pick [] rfl rfl) ?_
 refine gdS 40 { dst := none, op := _, type := _, pos := _, after := _, guard := _ } rfl (st_store (j := 5) (v := (.int .i64 p0_6)) rfl (by kernel_rfl) (by kernel_rfl) rfl (fun _ => by kernel_rfl) hS16 0 rfl (by show 5 < 12; decide)) ?_
 rintro w17 hS18
 have hS18 : St _ _ w17 [boxE g0 [.slice A0_0 p0_0.length c0_0, .slice A0_1 p0_1.length c0_1, .int .i64 p0_3, .int .i64 p0_4, .int .i64 p0_5, .int .i64 p0_6, .int .i64 p0_6, .int .i64 p0_7, .int .i64 p0_8, .bool p0_9, .bool p0_10, .bool p0_11] 49] := hS18
 refine ⟨(hS18.pick [] rfl rfl), ?_⟩
 refine gv1 41 39 (.pointer (some ⟨g0, 0, none⟩)) rfl (hS18.pick [] rfl rfl) ?_
 refine gv1 42 40 (.pointer (some ⟨g0, 6, none⟩)) rfl (hS18.pick [] rfl rfl) ?_
 refine gdS 43 { dst := none, op := _, type := _, pos := _, after := _, guard := _ } rfl (st_store (j := 6) (v := (.int .i64 x7)) rfl (by kernel_rfl) (by kernel_rfl) rfl (fun _ => by kernel_rfl) hS18 0 rfl (by show 6 < 12; decide)) ?_
 rintro w19 hS20
 have hS20 : St _ _ w19 [boxE g0 [.slice A0_0 p0_0.length c0_0, .slice A0_1 p0_1.length c0_1, .int .i64 p0_3, .int .i64 p0_4, .int .i64 p0_5, .int .i64 p0_6, .int .i64 x7, .int .i64 p0_7, .int .i64 p0_8, .bool p0_9, .bool p0_10, .bool p0_11] 49] := hS20
 refine ⟨(hS20.pick [] rfl rfl), ?_⟩
 refine gd_done (by kernel_rfl) ?_
 refine gx_thenN ?_
 refine hK2 _ _ ?_
 obtain ⟨c26, hE27, hO28⟩ := bind_in hF
 refine gx_cut (fun a w => ∃ (x24 : Int) (x25 : Int), selfA (fun u23 => ⟨((.pointer (some ⟨g0, 0, none⟩)) :: undef :: (.pointer (some ⟨g0, 0, none⟩)) :: (.pointer (some ⟨g0, 0, none⟩)) :: (.pointer (some ⟨g0, 0, none⟩)) :: (.pointer (some ⟨g0, 0, none⟩)) :: (.pointer (some ⟨g0, 0, none⟩)) :: (.pointer (some ⟨g0, 0, none⟩)) :: (.pointer (some ⟨g0, 0, none⟩)) :: (.pointer (some ⟨g0, 3, none⟩)) :: (.int .i64 p0_3) :: (.pointer (some ⟨g0, 0, none⟩)) :: (.pointer (some ⟨g0, 0, none⟩)) :: (.pointer (some ⟨g0, 4, none⟩)) :: (.int .i64 p0_4) :: (.pointer (some ⟨g0, 0, none⟩)) :: (.pointer (some ⟨g0, 0, none⟩)) :: (.pointer (some ⟨g0, 5, none⟩)) :: (.int .i64 p0_5) :: (.pointer (some ⟨g0, 0, none⟩)) :: (.pointer (some ⟨g0, 0, none⟩)) :: (.pointer (some ⟨g0, 6, none⟩)) :: (.int .i64 p0_6) :: (.pointer (some ⟨g0, 0, none⟩)) :: (.pointer (some ⟨g0, 0, none⟩)) :: (.pointer (some ⟨g0, 0, none⟩)) :: (.pointer (some ⟨g0, 0, none⟩)) :: (.pointer (some ⟨g0, 0, none⟩)) :: (.pointer (some ⟨g0, 6, none⟩)) :: (.int .i64 p0_6) :: (.int .i64 x7) :: (.pointer (some ⟨g0, 0, none⟩)) :: (.pointer (some ⟨g0, 2, none⟩)) :: (.pointer (some ⟨g0, 0, none⟩)) :: (.pointer (some ⟨g0, 3, none⟩)) :: (.pointer (some ⟨g0, 0, none⟩)) :: (.pointer (some ⟨g0, 4, none⟩)) :: (.pointer (some ⟨g0, 0, none⟩)) :: (.pointer (some ⟨g0, 5, none⟩)) :: (.pointer (some ⟨g0, 0, none⟩)) :: (.pointer (some ⟨g0, 6, none⟩)) :: dd u23 41 24 (un 55 ([]))).toArray, []⟩) a ∧ (x24, x25) = c26 ∧ St (foots [plE g0 A0_0 c0_0 A0_1 c0_1 p0_0 p0_1 p0_2 p0_3 p0_4 p0_5 p0_6 p0_7 p0_8 p0_9 p0_10 p0_11]) w0 w [boxE g0 [.slice A0_0 p0_0.length c0_0, .slice A0_1 p0_1.length c0_1, .int .i64 p0_3, .int .i64 p0_4, .int .i64 p0_5, .int .i64 p0_6, .int .i64 x7, .int .i64 x24, .int .i64 x25, .bool p0_9, .bool p0_10, .bool p0_11] 49]) ?_ ?_
 ·refine gx_seq (fun K29 hK30 => ?_)
  refine gd_start (fun w => St (foots [plE g0 A0_0 c0_0 A0_1 c0_1 p0_0 p0_1 p0_2 p0_3 p0_4 p0_5 p0_6 p0_7 p0_8 p0_9 p0_10 p0_11]) w0 w [boxE g0 [.slice A0_0 p0_0.length c0_0, .slice A0_1 p0_1.length c0_1, .int .i64 p0_3, .int .i64 p0_4, .int .i64 p0_5, .int .i64 p0_6, .int .i64 x7, .int .i64 p0_7, .int .i64 p0_8, .bool p0_9, .bool p0_10, .bool p0_11] 49]) 10 #[false, false, false, false, false, false, false, false, false, false] (by kernel_rfl) (by kernel_rfl) ?_
  have hS32 := hS20.drew
  generalize w19.drew = w31 at hS32 ⊢
  refine gv1 0 41 (.pointer (some ⟨g0, 0, none⟩)) rfl hS32 ?_
  refine gv1 1 42 (.pointer (some ⟨g0, 0, none⟩)) rfl hS32 ?_
  refine gv1 2 43 (.pointer (some ⟨g0, 0, none⟩)) rfl hS32 ?_
  refine gv1 3 44 (.pointer (some ⟨g0, 0, none⟩)) rfl hS32 ?_
  refine gv1 4 45 (.pointer (some ⟨g0, 0, none⟩)) rfl hS32 ?_
  refine gv1 5 46 (.pointer (some ⟨g0, 3, none⟩)) rfl hS32 ?_
  refine gu1 6 47 (.int .i64 p0_4) rfl hS32 (fun w hSw => run_load1 rfl (by kernel_rfl) (fun _ => by kernel_rfl) (hSw.box 0 rfl 3 rfl)) ?_
  refine gdR 7 { dst := some 48, op := _, type := _, pos := _, after := _, guard := _ } rfl (st_made .u8 5 [5] hS32 (by show 1 ≤ 1000000000; decide) (by kernel_rfl)) ?_
  rintro _ w33 ⟨rfl, hS34⟩
  have hS34 : St _ _ w33 [boxE g0 [.slice A0_0 p0_0.length c0_0, .slice A0_1 p0_1.length c0_1, .int .i64 p0_3, .int .i64 p0_4, .int .i64 p0_5, .int .i64 p0_6, .int .i64 x7, .int .i64 p0_7, .int .i64 p0_8, .bool p0_9, .bool p0_10, .bool p0_11] 49, rowE .u8 5 (some ⟨w31.heap.size, 0, none⟩) 1 ([5])] := hS34
  refine ⟨(hS34.pick [0] rfl rfl), ?_⟩
  have hP35 : St _ _ w33 ([boxE g0 [.slice A0_0 p0_0.length c0_0, .slice A0_1 p0_1.length c0_1, .int .i64 p0_3, .int .i64 p0_4, .int .i64 p0_5, .int .i64 p0_6, .int .i64 x7, .int .i64 p0_7, .int .i64 p0_8, .bool p0_9, .bool p0_10, .bool p0_11] 49] ++ [rowE .u8 5 (some ⟨w31.heap.size, 0, none⟩) 1 ([5])]) := hS34
  obtain ⟨b37, hc36, hE27⟩ := bind_in hE27
  try dsimp only at hE27
  refine gdC 8 { dst := some 49, op := _, type := _, pos := _, after := _, guard := _ } (pIs_R p0_0 p0_1 p0_3 p0_4 p0_5 p0_6 x7 p0_7 p0_8 p0_9 p0_10 p0_11 p0_4 ([5]) g0 A0_0 c0_0 A0_1 c0_1 (some ⟨w31.heap.size, 0, none⟩) 1 b37 w33) rfl (by kernel_rfl) (pIs_ok N p0_0 p0_1 p0_3 p0_4 p0_5 p0_6 x7 p0_7 p0_8 p0_9 p0_10 p0_11 p0_4 ([5]) g0 A0_0 c0_0 A0_1 c0_1 (some ⟨w31.heap.size, 0, none⟩) 1 _ hc36 w33 (hP35.vwA hv0_0) (hP35.vwA hv0_1) (hP35.vwB 0 rfl) hP35.part) ?_
  rintro _ w38 ⟨rfl, hT40⟩
  have hS39 : St _ _ w38 [rowE .u8 5 (some ⟨w31.heap.size, 0, none⟩) 1 ([5]), boxE g0 [.slice A0_0 p0_0.length c0_0, .slice A0_1 p0_1.length c0_1, .int .i64 p0_3, .int .i64 p0_4, .int .i64 p0_5, .int .i64 p0_6, .int .i64 x7, .int .i64 p0_7, .int .i64 p0_8, .bool p0_9, .bool p0_10, .bool p0_11] 49] := hP35.lendN _ hT40
  refine ⟨(hS39.pick [1] rfl rfl), ?_⟩
  cases b37 with
  | true =>
   try dsimp only at hE27
   refine gv1 9 50 (.bool false) rfl (hS39.pick [1] rfl rfl) ?_
   refine gd_done (by kernel_rfl) ?_
   refine gx_thenN ?_
   refine hK30 _ _ ?_
   refine gx_no (by kernel_rfl) ?_
   refine gx_pass ?_
   refine gx_thenN ?_
   exact ⟨p0_7, p0_8, selfA_i (by kernel_rfl), (Option.some.inj hE27), (hS39.pick [1] rfl rfl)⟩
  | false =>
   try dsimp only at hE27
   refine gv1 9 50 (.bool true) rfl (hS39.pick [1] rfl rfl) ?_
   refine gd_done (by kernel_rfl) ?_
   refine gx_thenN ?_
   refine hK30 _ _ ?_
   refine gx_yes (by kernel_rfl) ?_
   refine gk_start 12 (fun w => St (foots [plE g0 A0_0 c0_0 A0_1 c0_1 p0_0 p0_1 p0_2 p0_3 p0_4 p0_5 p0_6 p0_7 p0_8 p0_9 p0_10 p0_11]) w0 w [rowE .u8 5 (some ⟨w31.heap.size, 0, none⟩) 1 ([5]), boxE g0 [.slice A0_0 p0_0.length c0_0, .slice A0_1 p0_1.length c0_1, .int .i64 p0_3, .int .i64 p0_4, .int .i64 p0_5, .int .i64 p0_6, .int .i64 x7, .int .i64 p0_7, .int .i64 p0_8, .bool p0_9, .bool p0_10, .bool p0_11] 49]) (fun w => St (foots [plE g0 A0_0 c0_0 A0_1 c0_1 p0_0 p0_1 p0_2 p0_3 p0_4 p0_5 p0_6 p0_7 p0_8 p0_9 p0_10 p0_11]) w0 w [rowE .u8 5 (some ⟨w31.heap.size, 0, none⟩) 1 ([5])]) 16 #[false, false, false, false, false, false, false, false, false, false, false, false, false, false, false, false] (by kernel_rfl) (by kernel_rfl) ?_
   have hS42 := hS39.drew
   generalize w38.drew = w41 at hS42 ⊢
   refine gk1 0 { dst := some 51, op := _, type := _, pos := _, after := _, guard := _ } (.pointer (some ⟨g0, 0, none⟩)) rfl hS42 (fun w hSw => by kernel_rfl) ?_
   refine gk1f 1 { dst := some 52, op := _, type := _, pos := _, after := _, guard := _ } (.pointer (some ⟨g0, 0, none⟩)) rfl hS42 (fun w => by kernel_rfl) ?_
   refine gk1 2 { dst := some 53, op := _, type := _, pos := _, after := _, guard := _ } (.pointer (some ⟨g0, 0, none⟩)) rfl hS42 (fun w hSw => by kernel_rfl) ?_
   refine gk1 3 { dst := some 54, op := _, type := _, pos := _, after := _, guard := _ } (.pointer (some ⟨g0, 0, none⟩)) rfl hS42 (fun w hSw => by kernel_rfl) ?_
   refine gk1 4 { dst := some 55, op := _, type := _, pos := _, after := _, guard := _ } (.pointer (some ⟨g0, 2, none⟩)) rfl hS42 (fun w hSw => by kernel_rfl) ?_
   refine gk1 5 { dst := some 56, op := _, type := _, pos := _, after := _, guard := _ } (.int .i64 p0_3) rfl hS42 (fun w hSw => run_load1 rfl (by kernel_rfl) (fun _ => by kernel_rfl) (hSw.box 1 rfl 2 rfl)) ?_
   refine gk1f 6 { dst := some 57, op := _, type := _, pos := _, after := _, guard := _ } (.pointer (some ⟨g0, 0, none⟩)) rfl hS42 (fun w => by kernel_rfl) ?_
   refine gk1f 7 { dst := some 58, op := _, type := _, pos := _, after := _, guard := _ } (.pointer (some ⟨g0, 0, none⟩)) rfl hS42 (fun w => by kernel_rfl) ?_
   refine gk1f 8 { dst := some 59, op := _, type := _, pos := _, after := _, guard := _ } (.pointer (some ⟨g0, 3, none⟩)) rfl hS42 (fun w => by kernel_rfl) ?_
   refine gk1 9 { dst := some 60, op := _, type := _, pos := _, after := _, guard := _ } (.int .i64 p0_4) rfl hS42 (fun w hSw => run_load1 rfl (by kernel_rfl) (fun _ => by kernel_rfl) (hSw.box 1 rfl 3 rfl)) ?_
   refine gk1f 10 { dst := some 61, op := _, type := _, pos := _, after := _, guard := _ } (.pointer (some ⟨g0, 0, none⟩)) rfl hS42 (fun w => by kernel_rfl) ?_
   refine gk1 11 { dst := some 62, op := _, type := _, pos := _, after := _, guard := _ } (.pointer (some ⟨g0, 7, none⟩)) rfl hS42 (fun w hSw => by kernel_rfl) ?_
   refine gkS { dst := none, op := _, type := _, pos := _, after := _, guard := _ } rfl (st_store (j := 7) (v := (.int .i64 p0_3)) rfl (by kernel_rfl) (by kernel_rfl) rfl (fun _ => by kernel_rfl) hS42 1 rfl (by show 7 < 12; decide)) ?_
   rintro w43 hS44
   have hS44 : St _ _ w43 [rowE .u8 5 (some ⟨w31.heap.size, 0, none⟩) 1 ([5]), boxE g0 [.slice A0_0 p0_0.length c0_0, .slice A0_1 p0_1.length c0_1, .int .i64 p0_3, .int .i64 p0_4, .int .i64 p0_5, .int .i64 p0_6, .int .i64 x7, .int .i64 p0_3, .int .i64 p0_8, .bool p0_9, .bool p0_10, .bool p0_11] 49] := hS44
   refine ⟨(hS44.pick [0] rfl rfl), ?_⟩
   refine gv1 13 63 (.pointer (some ⟨g0, 0, none⟩)) rfl (hS44.pick [0] rfl rfl) ?_
   refine gv1 14 64 (.pointer (some ⟨g0, 8, none⟩)) rfl (hS44.pick [0] rfl rfl) ?_
   refine gdS 15 { dst := none, op := _, type := _, pos := _, after := _, guard := _ } rfl (st_store (j := 8) (v := (.int .i64 p0_4)) rfl (by kernel_rfl) (by kernel_rfl) rfl (fun _ => by kernel_rfl) hS44 1 rfl (by show 8 < 12; decide)) ?_
   rintro w45 hS46
   have hS46 : St _ _ w45 [rowE .u8 5 (some ⟨w31.heap.size, 0, none⟩) 1 ([5]), boxE g0 [.slice A0_0 p0_0.length c0_0, .slice A0_1 p0_1.length c0_1, .int .i64 p0_3, .int .i64 p0_4, .int .i64 p0_5, .int .i64 p0_6, .int .i64 x7, .int .i64 p0_3, .int .i64 p0_4, .bool p0_9, .bool p0_10, .bool p0_11] 49] := hS46
   refine ⟨(hS46.pick [0] rfl rfl), ?_⟩
   refine gd_done (by kernel_rfl) ?_
   refine gx_thenN ?_
   exact ⟨p0_3, p0_4, selfA_i (by kernel_rfl), (Option.some.inj hE27), (hS46.pick [1] rfl rfl)⟩
 ·rintro _ w21 ⟨x24, x25, hq97, rfl, hS22⟩
  obtain ⟨u23, rfl⟩ := selfA_u hq97
  try dsimp only at hO28
  refine gx_seq (fun K47 hK48 => ?_)
  refine gx_region ?_
  refine gx_k (.pointer (some ⟨g0, 0, none⟩)) w21 (gx_k (.pointer (some ⟨g0, 0, none⟩)) w21 (gx_k (.pointer (some ⟨g0, 0, none⟩)) w21 (gx_k (.pointer (some ⟨g0, 10, none⟩)) w21 ?_)))
  refine gx_v (.bool p0_10) w21 (run_load1 rfl (by kernel_rfl) (fun _ => by kernel_rfl) (hS22.box 0 rfl 10 rfl)) ?_
  refine gx_k (.pointer (some ⟨g0, 0, none⟩)) w21 (gx_k (.pointer (some ⟨g0, 9, none⟩)) w21 ?_)
  refine gx_s (st_store (j := 9) (v := (.bool p0_10)) rfl (by kernel_rfl) (by kernel_rfl) rfl (fun _ => by kernel_rfl) hS22 0 rfl (by show 9 < 12; decide)) ?_
  rintro w49 hS50
  have hS50 : St _ _ w49 [boxE g0 [.slice A0_0 p0_0.length c0_0, .slice A0_1 p0_1.length c0_1, .int .i64 p0_3, .int .i64 p0_4, .int .i64 p0_5, .int .i64 p0_6, .int .i64 x7, .int .i64 x24, .int .i64 x25, .bool p0_10, .bool p0_10, .bool p0_11] 49] := hS50
  refine gx_nil ?_
  refine gx_thenN ?_
  refine hK48 _ _ ?_
  obtain ⟨c55, hE56, hO57⟩ := bind_in hO28
  refine gx_cut (fun a w => ∃ (b54 : Bool), selfA (fun u53 => ⟨((.pointer (some ⟨g0, 0, none⟩)) :: undef :: (.pointer (some ⟨g0, 0, none⟩)) :: (.pointer (some ⟨g0, 0, none⟩)) :: (.pointer (some ⟨g0, 0, none⟩)) :: (.pointer (some ⟨g0, 0, none⟩)) :: (.pointer (some ⟨g0, 0, none⟩)) :: (.pointer (some ⟨g0, 0, none⟩)) :: (.pointer (some ⟨g0, 0, none⟩)) :: (.pointer (some ⟨g0, 3, none⟩)) :: (.int .i64 p0_3) :: (.pointer (some ⟨g0, 0, none⟩)) :: (.pointer (some ⟨g0, 0, none⟩)) :: (.pointer (some ⟨g0, 4, none⟩)) :: (.int .i64 p0_4) :: (.pointer (some ⟨g0, 0, none⟩)) :: (.pointer (some ⟨g0, 0, none⟩)) :: (.pointer (some ⟨g0, 5, none⟩)) :: (.int .i64 p0_5) :: (.pointer (some ⟨g0, 0, none⟩)) :: (.pointer (some ⟨g0, 0, none⟩)) :: (.pointer (some ⟨g0, 6, none⟩)) :: (.int .i64 p0_6) :: (.pointer (some ⟨g0, 0, none⟩)) :: (.pointer (some ⟨g0, 0, none⟩)) :: (.pointer (some ⟨g0, 0, none⟩)) :: (.pointer (some ⟨g0, 0, none⟩)) :: (.pointer (some ⟨g0, 0, none⟩)) :: (.pointer (some ⟨g0, 6, none⟩)) :: (.int .i64 p0_6) :: (.int .i64 x7) :: (.pointer (some ⟨g0, 0, none⟩)) :: (.pointer (some ⟨g0, 2, none⟩)) :: (.pointer (some ⟨g0, 0, none⟩)) :: (.pointer (some ⟨g0, 3, none⟩)) :: (.pointer (some ⟨g0, 0, none⟩)) :: (.pointer (some ⟨g0, 4, none⟩)) :: (.pointer (some ⟨g0, 0, none⟩)) :: (.pointer (some ⟨g0, 5, none⟩)) :: (.pointer (some ⟨g0, 0, none⟩)) :: (.pointer (some ⟨g0, 6, none⟩)) :: dd u23 41 24 ((.pointer (some ⟨g0, 0, none⟩)) :: (.pointer (some ⟨g0, 0, none⟩)) :: (.pointer (some ⟨g0, 0, none⟩)) :: (.pointer (some ⟨g0, 10, none⟩)) :: (.bool p0_10) :: (.pointer (some ⟨g0, 0, none⟩)) :: (.pointer (some ⟨g0, 9, none⟩)) :: dd u53 72 29 (un 19 ([])))).toArray, []⟩) a ∧ b54 = c55 ∧ St (foots [plE g0 A0_0 c0_0 A0_1 c0_1 p0_0 p0_1 p0_2 p0_3 p0_4 p0_5 p0_6 p0_7 p0_8 p0_9 p0_10 p0_11]) w0 w [boxE g0 [.slice A0_0 p0_0.length c0_0, .slice A0_1 p0_1.length c0_1, .int .i64 p0_3, .int .i64 p0_4, .int .i64 p0_5, .int .i64 p0_6, .int .i64 x7, .int .i64 x24, .int .i64 x25, .bool p0_10, .bool b54, .bool p0_11] 49]) ?_ ?_
  ·refine gk_start 29 (fun w => St (foots [plE g0 A0_0 c0_0 A0_1 c0_1 p0_0 p0_1 p0_2 p0_3 p0_4 p0_5 p0_6 p0_7 p0_8 p0_9 p0_10 p0_11]) w0 w [boxE g0 [.slice A0_0 p0_0.length c0_0, .slice A0_1 p0_1.length c0_1, .int .i64 p0_3, .int .i64 p0_4, .int .i64 p0_5, .int .i64 p0_6, .int .i64 x7, .int .i64 x24, .int .i64 x25, .bool p0_10, .bool p0_10, .bool p0_11] 49]) (fun w => St (foots [plE g0 A0_0 c0_0 A0_1 c0_1 p0_0 p0_1 p0_2 p0_3 p0_4 p0_5 p0_6 p0_7 p0_8 p0_9 p0_10 p0_11]) w0 w []) 30 #[false, false, false, false, false, false, false, false, false, false, false, false, false, false, false, false, false, false, false, false, false, false, false, false, false, false, false, false, false, false] (by kernel_rfl) (by kernel_rfl) ?_
   have hS59 := hS50.drew
   generalize w49.drew = w58 at hS59 ⊢
   refine gk1 0 { dst := some 72, op := _, type := _, pos := _, after := _, guard := _ } (.pointer (some ⟨g0, 0, none⟩)) rfl hS59 (fun w hSw => by kernel_rfl) ?_
   refine gk1 1 { dst := some 73, op := _, type := _, pos := _, after := _, guard := _ } (.pointer (some ⟨g0, 0, none⟩)) rfl hS59 (fun w hSw => by kernel_rfl) ?_
   refine gk1 2 { dst := some 74, op := _, type := _, pos := _, after := _, guard := _ } (.pointer (some ⟨g0, 0, none⟩)) rfl hS59 (fun w hSw => by kernel_rfl) ?_
   refine gk1 3 { dst := some 75, op := _, type := _, pos := _, after := _, guard := _ } (.pointer (some ⟨g0, 0, none⟩)) rfl hS59 (fun w hSw => by kernel_rfl) ?_
   refine gk1 4 { dst := some 76, op := _, type := _, pos := _, after := _, guard := _ } (.pointer (some ⟨g0, 0, none⟩)) rfl hS59 (fun w hSw => by kernel_rfl) ?_
   refine gk1 5 { dst := some 77, op := _, type := _, pos := _, after := _, guard := _ } (.pointer (some ⟨g0, 0, none⟩)) rfl hS59 (fun w hSw => by kernel_rfl) ?_
   refine gk1 6 { dst := some 78, op := _, type := _, pos := _, after := _, guard := _ } (.pointer (some ⟨g0, 3, none⟩)) rfl hS59 (fun w hSw => by kernel_rfl) ?_
   refine gk1 7 { dst := some 79, op := _, type := _, pos := _, after := _, guard := _ } (.int .i64 p0_4) rfl hS59 (fun w hSw => run_load1 rfl (by kernel_rfl) (fun _ => by kernel_rfl) (hSw.box 0 rfl 3 rfl)) ?_
   refine gkR 8 { dst := some 80, op := _, type := _, pos := _, after := _, guard := _ } rfl (st_made .u8 5 [27] hS59 (by show 1 ≤ 1000000000; decide) (by kernel_rfl)) ?_
   rintro _ w60 ⟨rfl, hS61⟩
   have hS61 : St _ _ w60 [boxE g0 [.slice A0_0 p0_0.length c0_0, .slice A0_1 p0_1.length c0_1, .int .i64 p0_3, .int .i64 p0_4, .int .i64 p0_5, .int .i64 p0_6, .int .i64 x7, .int .i64 x24, .int .i64 x25, .bool p0_10, .bool p0_10, .bool p0_11] 49, rowE .u8 5 (some ⟨w58.heap.size, 0, none⟩) 1 ([27])] := hS61
   refine ⟨(hS61.pick [0] rfl rfl), ?_⟩
   have hP62 : St _ _ w60 ([boxE g0 [.slice A0_0 p0_0.length c0_0, .slice A0_1 p0_1.length c0_1, .int .i64 p0_3, .int .i64 p0_4, .int .i64 p0_5, .int .i64 p0_6, .int .i64 x7, .int .i64 x24, .int .i64 x25, .bool p0_10, .bool p0_10, .bool p0_11] 49] ++ [rowE .u8 5 (some ⟨w58.heap.size, 0, none⟩) 1 ([27])]) := hS61
   obtain ⟨b64, hc63, hE56⟩ := bind_in hE56
   try dsimp only at hE56
   refine gkC 9 { dst := some 81, op := _, type := _, pos := _, after := _, guard := _ } (pIs_R p0_0 p0_1 p0_3 p0_4 p0_5 p0_6 x7 x24 x25 p0_10 p0_10 p0_11 p0_4 ([27]) g0 A0_0 c0_0 A0_1 c0_1 (some ⟨w58.heap.size, 0, none⟩) 1 b64 w60) rfl (by kernel_rfl) (pIs_ok N p0_0 p0_1 p0_3 p0_4 p0_5 p0_6 x7 x24 x25 p0_10 p0_10 p0_11 p0_4 ([27]) g0 A0_0 c0_0 A0_1 c0_1 (some ⟨w58.heap.size, 0, none⟩) 1 _ hc63 w60 (hP62.vwA hv0_0) (hP62.vwA hv0_1) (hP62.vwB 0 rfl) hP62.part) ?_
   rintro _ w65 ⟨rfl, hT67⟩
   have hS66 : St _ _ w65 [rowE .u8 5 (some ⟨w58.heap.size, 0, none⟩) 1 ([27]), boxE g0 [.slice A0_0 p0_0.length c0_0, .slice A0_1 p0_1.length c0_1, .int .i64 p0_3, .int .i64 p0_4, .int .i64 p0_5, .int .i64 p0_6, .int .i64 x7, .int .i64 x24, .int .i64 x25, .bool p0_10, .bool p0_10, .bool p0_11] 49] := hP62.lendN _ hT67
   refine ⟨(hS66.pick [1] rfl rfl), ?_⟩
   refine gk1 10 { dst := some 82, op := _, type := _, pos := _, after := _, guard := _ } (.bool b64) rfl (hS66.pick [1] rfl rfl) (fun w hSw => by kernel_rfl) ?_
   cases b64 with
   | true =>
    try dsimp only at hE56
    refine gk0 11 { dst := some 83, op := _, type := _, pos := _, after := _, guard := _ } rfl (hS66.pick [1] rfl rfl) ?_
    refine gk0 12 { dst := some 84, op := _, type := _, pos := _, after := _, guard := _ } rfl (hS66.pick [1] rfl rfl) ?_
    refine gk0 13 { dst := some 85, op := _, type := _, pos := _, after := _, guard := _ } rfl (hS66.pick [1] rfl rfl) ?_
    refine gk0 14 { dst := some 86, op := _, type := _, pos := _, after := _, guard := _ } rfl (hS66.pick [1] rfl rfl) ?_
    refine gk0 15 { dst := some 87, op := _, type := _, pos := _, after := _, guard := _ } rfl (hS66.pick [1] rfl rfl) ?_
    refine gk0 16 { dst := some 88, op := _, type := _, pos := _, after := _, guard := _ } rfl (hS66.pick [1] rfl rfl) ?_
    refine gk0 17 { dst := some 89, op := _, type := _, pos := _, after := _, guard := _ } rfl (hS66.pick [1] rfl rfl) ?_
    refine gk0 18 { dst := some 90, op := _, type := _, pos := _, after := _, guard := _ } rfl (hS66.pick [1] rfl rfl) ?_
    refine gk0 19 { dst := some 91, op := _, type := _, pos := _, after := _, guard := _ } rfl (hS66.pick [1] rfl rfl) ?_
    refine gk0 20 { dst := some 92, op := _, type := _, pos := _, after := _, guard := _ } rfl (hS66.pick [1] rfl rfl) ?_
    refine gk0 21 { dst := some 93, op := _, type := _, pos := _, after := _, guard := _ } rfl (hS66.pick [1] rfl rfl) ?_
    refine gk0 22 { dst := some 94, op := _, type := _, pos := _, after := _, guard := _ } rfl (hS66.pick [1] rfl rfl) ?_
    refine gk0 23 { dst := some 95, op := _, type := _, pos := _, after := _, guard := _ } rfl (hS66.pick [1] rfl rfl) ?_
    refine gk0 24 { dst := some 96, op := _, type := _, pos := _, after := _, guard := _ } rfl (hS66.pick [1] rfl rfl) ?_
    refine gk0 25 { dst := some 97, op := _, type := _, pos := _, after := _, guard := _ } rfl (hS66.pick [1] rfl rfl) ?_
    refine gk1 26 { dst := some 98, op := _, type := _, pos := _, after := _, guard := _ } (.bool true) rfl (hS66.pick [1] rfl rfl) (fun w hSw => by kernel_rfl) ?_
    refine gk1f 27 { dst := some 99, op := _, type := _, pos := _, after := _, guard := _ } (.pointer (some ⟨g0, 0, none⟩)) rfl (hS66.pick [1] rfl rfl) (fun w => by kernel_rfl) ?_
    refine gk1 28 { dst := some 100, op := _, type := _, pos := _, after := _, guard := _ } (.pointer (some ⟨g0, 10, none⟩)) rfl (hS66.pick [1] rfl rfl) (fun w hSw => by kernel_rfl) ?_
    refine gkS { dst := none, op := _, type := _, pos := _, after := _, guard := _ } rfl (st_store (j := 10) (v := (.bool true)) rfl (by kernel_rfl) (by kernel_rfl) rfl (fun _ => by kernel_rfl) hS66 1 rfl (by show 10 < 12; decide)) ?_
    rintro w68 hS69
    have hS69 : St _ _ w68 [rowE .u8 5 (some ⟨w58.heap.size, 0, none⟩) 1 ([27]), boxE g0 [.slice A0_0 p0_0.length c0_0, .slice A0_1 p0_1.length c0_1, .int .i64 p0_3, .int .i64 p0_4, .int .i64 p0_5, .int .i64 p0_6, .int .i64 x7, .int .i64 x24, .int .i64 x25, .bool p0_10, .bool true, .bool p0_11] 49] := hS69
    refine ⟨(hS69.pick [] rfl rfl), ?_⟩
    refine gd_done (by kernel_rfl) ?_
    refine gx_thenN ?_
    exact ⟨true, selfA_i (by kernel_rfl), (Option.some.inj hE56), (hS69.pick [1] rfl rfl)⟩
   | false =>
    try dsimp only at hE56
    refine gk1 11 { dst := some 83, op := _, type := _, pos := _, after := _, guard := _ } (.pointer (some ⟨g0, 0, none⟩)) rfl (hS66.pick [1] rfl rfl) (fun w hSw => by kernel_rfl) ?_
    refine gk1 12 { dst := some 84, op := _, type := _, pos := _, after := _, guard := _ } (.pointer (some ⟨g0, 0, none⟩)) rfl (hS66.pick [1] rfl rfl) (fun w hSw => by kernel_rfl) ?_
    refine gk1 13 { dst := some 85, op := _, type := _, pos := _, after := _, guard := _ } (.pointer (some ⟨g0, 9, none⟩)) rfl (hS66.pick [1] rfl rfl) (fun w hSw => by kernel_rfl) ?_
    refine gk1 14 { dst := some 86, op := _, type := _, pos := _, after := _, guard := _ } (.bool p0_10) rfl (hS66.pick [1] rfl rfl) (fun w hSw => run_load1 rfl (by kernel_rfl) (fun _ => by kernel_rfl) (hSw.box 0 rfl 9 rfl)) ?_
    refine gk1 15 { dst := some 87, op := _, type := _, pos := _, after := _, guard := _ } (.bool p0_10) rfl (hS66.pick [1] rfl rfl) (fun w hSw => by kernel_rfl) ?_
    cases p0_10 with
    | true =>
     try dsimp only at hE56
     refine gk1 16 { dst := some 88, op := _, type := _, pos := _, after := _, guard := _ } (.pointer (some ⟨g0, 0, none⟩)) rfl (hS66.pick [1] rfl rfl) (fun w hSw => by kernel_rfl) ?_
     refine gk1 17 { dst := some 89, op := _, type := _, pos := _, after := _, guard := _ } (.pointer (some ⟨g0, 0, none⟩)) rfl (hS66.pick [1] rfl rfl) (fun w hSw => by kernel_rfl) ?_
     refine gk1 18 { dst := some 90, op := _, type := _, pos := _, after := _, guard := _ } (.pointer (some ⟨g0, 0, none⟩)) rfl (hS66.pick [1] rfl rfl) (fun w hSw => by kernel_rfl) ?_
     refine gk1 19 { dst := some 91, op := _, type := _, pos := _, after := _, guard := _ } (.pointer (some ⟨g0, 0, none⟩)) rfl (hS66.pick [1] rfl rfl) (fun w hSw => by kernel_rfl) ?_
     refine gk1 20 { dst := some 92, op := _, type := _, pos := _, after := _, guard := _ } (.pointer (some ⟨g0, 0, none⟩)) rfl (hS66.pick [1] rfl rfl) (fun w hSw => by kernel_rfl) ?_
     refine gk1 21 { dst := some 93, op := _, type := _, pos := _, after := _, guard := _ } (.pointer (some ⟨g0, 3, none⟩)) rfl (hS66.pick [1] rfl rfl) (fun w hSw => by kernel_rfl) ?_
     refine gk1 22 { dst := some 94, op := _, type := _, pos := _, after := _, guard := _ } (.int .i64 p0_4) rfl (hS66.pick [1] rfl rfl) (fun w hSw => run_load1 rfl (by kernel_rfl) (fun _ => by kernel_rfl) (hSw.box 0 rfl 3 rfl)) ?_
     refine gkR 23 { dst := some 95, op := _, type := _, pos := _, after := _, guard := _ } rfl (st_made .u8 5 [24, 23] hS66 (by show 2 ≤ 1000000000; decide) (by kernel_rfl)) ?_
     rintro _ w70 ⟨rfl, hS71⟩
     have hS71 : St _ _ w70 [rowE .u8 5 (some ⟨w58.heap.size, 0, none⟩) 1 ([27]), boxE g0 [.slice A0_0 p0_0.length c0_0, .slice A0_1 p0_1.length c0_1, .int .i64 p0_3, .int .i64 p0_4, .int .i64 p0_5, .int .i64 p0_6, .int .i64 x7, .int .i64 x24, .int .i64 x25, .bool true, .bool true, .bool p0_11] 49, rowE .u8 5 (some ⟨w65.heap.size, 0, none⟩) 2 ([24, 23])] := hS71
     refine ⟨(hS71.pick [1] rfl rfl), ?_⟩
     have hP72 : St _ _ w70 ([boxE g0 [.slice A0_0 p0_0.length c0_0, .slice A0_1 p0_1.length c0_1, .int .i64 p0_3, .int .i64 p0_4, .int .i64 p0_5, .int .i64 p0_6, .int .i64 x7, .int .i64 x24, .int .i64 x25, .bool true, .bool true, .bool p0_11] 49] ++ [rowE .u8 5 (some ⟨w58.heap.size, 0, none⟩) 1 ([27]), rowE .u8 5 (some ⟨w65.heap.size, 0, none⟩) 2 ([24, 23])]) := hS71.pick [1, 0, 2] rfl rfl
     obtain ⟨b74, hc73, hE56⟩ := bind_in hE56
     try dsimp only at hE56
     refine gkC 24 { dst := some 96, op := _, type := _, pos := _, after := _, guard := _ } (pIs_R p0_0 p0_1 p0_3 p0_4 p0_5 p0_6 x7 x24 x25 true true p0_11 p0_4 ([24, 23]) g0 A0_0 c0_0 A0_1 c0_1 (some ⟨w65.heap.size, 0, none⟩) 2 b74 w70) rfl (by kernel_rfl) (pIs_ok N p0_0 p0_1 p0_3 p0_4 p0_5 p0_6 x7 x24 x25 true true p0_11 p0_4 ([24, 23]) g0 A0_0 c0_0 A0_1 c0_1 (some ⟨w65.heap.size, 0, none⟩) 2 _ hc73 w70 (hP72.vwA hv0_0) (hP72.vwA hv0_1) (hP72.vwB 1 rfl) hP72.part) ?_
     rintro _ w75 ⟨rfl, hT77⟩
     have hS76 : St _ _ w75 [rowE .u8 5 (some ⟨w58.heap.size, 0, none⟩) 1 ([27]), rowE .u8 5 (some ⟨w65.heap.size, 0, none⟩) 2 ([24, 23]), boxE g0 [.slice A0_0 p0_0.length c0_0, .slice A0_1 p0_1.length c0_1, .int .i64 p0_3, .int .i64 p0_4, .int .i64 p0_5, .int .i64 p0_6, .int .i64 x7, .int .i64 x24, .int .i64 x25, .bool true, .bool true, .bool p0_11] 49] := hP72.lendN _ hT77
     refine ⟨(hS76.pick [2] rfl rfl), ?_⟩
     refine gk1 25 { dst := some 97, op := _, type := _, pos := _, after := _, guard := _ } (.bool b74) rfl (hS76.pick [2] rfl rfl) (fun w hSw => by kernel_rfl) ?_
     refine gk1 26 { dst := some 98, op := _, type := _, pos := _, after := _, guard := _ } (.bool b74) rfl (hS76.pick [2] rfl rfl) (fun w hSw => by kernel_rfl) ?_
     refine gk1f 27 { dst := some 99, op := _, type := _, pos := _, after := _, guard := _ } (.pointer (some ⟨g0, 0, none⟩)) rfl (hS76.pick [2] rfl rfl) (fun w => by kernel_rfl) ?_
     refine gk1 28 { dst := some 100, op := _, type := _, pos := _, after := _, guard := _ } (.pointer (some ⟨g0, 10, none⟩)) rfl (hS76.pick [2] rfl rfl) (fun w hSw => by kernel_rfl) ?_
     refine gkS { dst := none, op := _, type := _, pos := _, after := _, guard := _ } rfl (st_store (j := 10) (v := (.bool b74)) rfl (by kernel_rfl) (by kernel_rfl) rfl (fun _ => by kernel_rfl) hS76 2 rfl (by show 10 < 12; decide)) ?_
     rintro w78 hS79
     have hS79 : St _ _ w78 [rowE .u8 5 (some ⟨w58.heap.size, 0, none⟩) 1 ([27]), rowE .u8 5 (some ⟨w65.heap.size, 0, none⟩) 2 ([24, 23]), boxE g0 [.slice A0_0 p0_0.length c0_0, .slice A0_1 p0_1.length c0_1, .int .i64 p0_3, .int .i64 p0_4, .int .i64 p0_5, .int .i64 p0_6, .int .i64 x7, .int .i64 x24, .int .i64 x25, .bool true, .bool b74, .bool p0_11] 49] := hS79
     refine ⟨(hS79.pick [] rfl rfl), ?_⟩
     refine gd_done (by kernel_rfl) ?_
     refine gx_thenN ?_
     exact ⟨b74, selfA_i (by kernel_rfl), (Option.some.inj hE56), (hS79.pick [2] rfl rfl)⟩
    | false =>
     try dsimp only at hE56
     refine gk0 16 { dst := some 88, op := _, type := _, pos := _, after := _, guard := _ } rfl (hS66.pick [1] rfl rfl) ?_
     refine gk0 17 { dst := some 89, op := _, type := _, pos := _, after := _, guard := _ } rfl (hS66.pick [1] rfl rfl) ?_
     refine gk0 18 { dst := some 90, op := _, type := _, pos := _, after := _, guard := _ } rfl (hS66.pick [1] rfl rfl) ?_
     refine gk0 19 { dst := some 91, op := _, type := _, pos := _, after := _, guard := _ } rfl (hS66.pick [1] rfl rfl) ?_
     refine gk0 20 { dst := some 92, op := _, type := _, pos := _, after := _, guard := _ } rfl (hS66.pick [1] rfl rfl) ?_
     refine gk0 21 { dst := some 93, op := _, type := _, pos := _, after := _, guard := _ } rfl (hS66.pick [1] rfl rfl) ?_
     refine gk0 22 { dst := some 94, op := _, type := _, pos := _, after := _, guard := _ } rfl (hS66.pick [1] rfl rfl) ?_
     refine gk0 23 { dst := some 95, op := _, type := _, pos := _, after := _, guard := _ } rfl (hS66.pick [1] rfl rfl) ?_
     refine gk0 24 { dst := some 96, op := _, type := _, pos := _, after := _, guard := _ } rfl (hS66.pick [1] rfl rfl) ?_
     refine gk1 25 { dst := some 97, op := _, type := _, pos := _, after := _, guard := _ } (.bool false) rfl (hS66.pick [1] rfl rfl) (fun w hSw => by kernel_rfl) ?_
     refine gk1 26 { dst := some 98, op := _, type := _, pos := _, after := _, guard := _ } (.bool false) rfl (hS66.pick [1] rfl rfl) (fun w hSw => by kernel_rfl) ?_
     refine gk1f 27 { dst := some 99, op := _, type := _, pos := _, after := _, guard := _ } (.pointer (some ⟨g0, 0, none⟩)) rfl (hS66.pick [1] rfl rfl) (fun w => by kernel_rfl) ?_
     refine gk1 28 { dst := some 100, op := _, type := _, pos := _, after := _, guard := _ } (.pointer (some ⟨g0, 10, none⟩)) rfl (hS66.pick [1] rfl rfl) (fun w hSw => by kernel_rfl) ?_
     refine gkS { dst := none, op := _, type := _, pos := _, after := _, guard := _ } rfl (st_store (j := 10) (v := (.bool false)) rfl (by kernel_rfl) (by kernel_rfl) rfl (fun _ => by kernel_rfl) hS66 1 rfl (by show 10 < 12; decide)) ?_
     rintro w80 hS81
     have hS81 : St _ _ w80 [rowE .u8 5 (some ⟨w58.heap.size, 0, none⟩) 1 ([27]), boxE g0 [.slice A0_0 p0_0.length c0_0, .slice A0_1 p0_1.length c0_1, .int .i64 p0_3, .int .i64 p0_4, .int .i64 p0_5, .int .i64 p0_6, .int .i64 x7, .int .i64 x24, .int .i64 x25, .bool false, .bool false, .bool p0_11] 49] := hS81
     refine ⟨(hS81.pick [] rfl rfl), ?_⟩
     refine gd_done (by kernel_rfl) ?_
     refine gx_thenN ?_
     exact ⟨false, selfA_i (by kernel_rfl), (Option.some.inj hE56), (hS81.pick [1] rfl rfl)⟩
  ·rintro _ w51 ⟨b54, hq96, rfl, hS52⟩
   obtain ⟨u53, rfl⟩ := selfA_u hq96
   try dsimp only at hO57
   refine gk_start 19 (fun w => St (foots [plE g0 A0_0 c0_0 A0_1 c0_1 p0_0 p0_1 p0_2 p0_3 p0_4 p0_5 p0_6 p0_7 p0_8 p0_9 p0_10 p0_11]) w0 w [boxE g0 [.slice A0_0 p0_0.length c0_0, .slice A0_1 p0_1.length c0_1, .int .i64 p0_3, .int .i64 p0_4, .int .i64 p0_5, .int .i64 p0_6, .int .i64 x7, .int .i64 x24, .int .i64 x25, .bool p0_10, .bool b54, .bool p0_11] 49]) (fun w => St (foots [plE g0 A0_0 c0_0 A0_1 c0_1 p0_0 p0_1 p0_2 p0_3 p0_4 p0_5 p0_6 p0_7 p0_8 p0_9 p0_10 p0_11]) w0 w []) 20 #[false, false, false, false, false, false, false, false, false, false, false, false, false, false, false, false, false, false, false, false] (by kernel_rfl) (by kernel_rfl) ?_
   have hS83 := hS52.drew
   generalize w51.drew = w82 at hS83 ⊢
   refine gk1 0 { dst := some 101, op := _, type := _, pos := _, after := _, guard := _ } (.pointer (some ⟨g0, 0, none⟩)) rfl hS83 (fun w hSw => by kernel_rfl) ?_
   refine gk1 1 { dst := some 102, op := _, type := _, pos := _, after := _, guard := _ } (.pointer (some ⟨g0, 0, none⟩)) rfl hS83 (fun w hSw => by kernel_rfl) ?_
   refine gk1 2 { dst := some 103, op := _, type := _, pos := _, after := _, guard := _ } (.pointer (some ⟨g0, 0, none⟩)) rfl hS83 (fun w hSw => by kernel_rfl) ?_
   refine gk1 3 { dst := some 104, op := _, type := _, pos := _, after := _, guard := _ } (.pointer (some ⟨g0, 0, none⟩)) rfl hS83 (fun w hSw => by kernel_rfl) ?_
   refine gk1 4 { dst := some 105, op := _, type := _, pos := _, after := _, guard := _ } (.pointer (some ⟨g0, 0, none⟩)) rfl hS83 (fun w hSw => by kernel_rfl) ?_
   refine gk1 5 { dst := some 106, op := _, type := _, pos := _, after := _, guard := _ } (.pointer (some ⟨g0, 0, none⟩)) rfl hS83 (fun w hSw => by kernel_rfl) ?_
   refine gk1 6 { dst := some 107, op := _, type := _, pos := _, after := _, guard := _ } (.pointer (some ⟨g0, 3, none⟩)) rfl hS83 (fun w hSw => by kernel_rfl) ?_
   refine gk1 7 { dst := some 108, op := _, type := _, pos := _, after := _, guard := _ } (.int .i64 p0_4) rfl hS83 (fun w hSw => run_load1 rfl (by kernel_rfl) (fun _ => by kernel_rfl) (hSw.box 0 rfl 3 rfl)) ?_
   refine gkR 8 { dst := some 109, op := _, type := _, pos := _, after := _, guard := _ } rfl (st_made .u8 5 [32] hS83 (by show 1 ≤ 1000000000; decide) (by kernel_rfl)) ?_
   rintro _ w84 ⟨rfl, hS85⟩
   have hS85 : St _ _ w84 [boxE g0 [.slice A0_0 p0_0.length c0_0, .slice A0_1 p0_1.length c0_1, .int .i64 p0_3, .int .i64 p0_4, .int .i64 p0_5, .int .i64 p0_6, .int .i64 x7, .int .i64 x24, .int .i64 x25, .bool p0_10, .bool b54, .bool p0_11] 49, rowE .u8 5 (some ⟨w82.heap.size, 0, none⟩) 1 ([32])] := hS85
   refine ⟨(hS85.pick [0] rfl rfl), ?_⟩
   have hP86 : St _ _ w84 ([boxE g0 [.slice A0_0 p0_0.length c0_0, .slice A0_1 p0_1.length c0_1, .int .i64 p0_3, .int .i64 p0_4, .int .i64 p0_5, .int .i64 p0_6, .int .i64 x7, .int .i64 x24, .int .i64 x25, .bool p0_10, .bool b54, .bool p0_11] 49] ++ [rowE .u8 5 (some ⟨w82.heap.size, 0, none⟩) 1 ([32])]) := hS85
   obtain ⟨b88, hc87, hO57⟩ := bind_in hO57
   try dsimp only at hO57
   refine gkC 9 { dst := some 110, op := _, type := _, pos := _, after := _, guard := _ } (pIs_R p0_0 p0_1 p0_3 p0_4 p0_5 p0_6 x7 x24 x25 p0_10 b54 p0_11 p0_4 ([32]) g0 A0_0 c0_0 A0_1 c0_1 (some ⟨w82.heap.size, 0, none⟩) 1 b88 w84) rfl (by kernel_rfl) (pIs_ok N p0_0 p0_1 p0_3 p0_4 p0_5 p0_6 x7 x24 x25 p0_10 b54 p0_11 p0_4 ([32]) g0 A0_0 c0_0 A0_1 c0_1 (some ⟨w82.heap.size, 0, none⟩) 1 _ hc87 w84 (hP86.vwA hv0_0) (hP86.vwA hv0_1) (hP86.vwB 0 rfl) hP86.part) ?_
   rintro _ w89 ⟨rfl, hT91⟩
   have hS90 : St _ _ w89 [rowE .u8 5 (some ⟨w82.heap.size, 0, none⟩) 1 ([32]), boxE g0 [.slice A0_0 p0_0.length c0_0, .slice A0_1 p0_1.length c0_1, .int .i64 p0_3, .int .i64 p0_4, .int .i64 p0_5, .int .i64 p0_6, .int .i64 x7, .int .i64 x24, .int .i64 x25, .bool p0_10, .bool b54, .bool p0_11] 49] := hP86.lendN _ hT91
   refine ⟨(hS90.pick [1] rfl rfl), ?_⟩
   refine gk1 10 { dst := some 111, op := _, type := _, pos := _, after := _, guard := _ } (.bool b88) rfl (hS90.pick [1] rfl rfl) (fun w hSw => by kernel_rfl) ?_
   cases b88 with
   | true =>
    try dsimp only at hO57
    refine gk1 11 { dst := some 112, op := _, type := _, pos := _, after := _, guard := _ } (.pointer (some ⟨g0, 0, none⟩)) rfl (hS90.pick [1] rfl rfl) (fun w hSw => by kernel_rfl) ?_
    refine gk1 12 { dst := some 113, op := _, type := _, pos := _, after := _, guard := _ } (.pointer (some ⟨g0, 0, none⟩)) rfl (hS90.pick [1] rfl rfl) (fun w hSw => by kernel_rfl) ?_
    refine gk1 13 { dst := some 114, op := _, type := _, pos := _, after := _, guard := _ } (.pointer (some ⟨g0, 11, none⟩)) rfl (hS90.pick [1] rfl rfl) (fun w hSw => by kernel_rfl) ?_
    refine gk1 14 { dst := some 115, op := _, type := _, pos := _, after := _, guard := _ } (.bool p0_11) rfl (hS90.pick [1] rfl rfl) (fun w hSw => run_load1 rfl (by kernel_rfl) (fun _ => by kernel_rfl) (hSw.box 0 rfl 11 rfl)) ?_
    refine gk1 15 { dst := some 116, op := _, type := _, pos := _, after := _, guard := _ } (.bool (!p0_11)) rfl (hS90.pick [1] rfl rfl) (fun w hSw => by kernel_rfl) ?_
    refine gk1 16 { dst := some 117, op := _, type := _, pos := _, after := _, guard := _ } (.bool (!p0_11)) rfl (hS90.pick [1] rfl rfl) (fun w hSw => by kernel_rfl) ?_
    refine gk1f 17 { dst := some 118, op := _, type := _, pos := _, after := _, guard := _ } (.pointer (some ⟨g0, 0, none⟩)) rfl (hS90.pick [1] rfl rfl) (fun w => by kernel_rfl) ?_
    refine gk1 18 { dst := some 119, op := _, type := _, pos := _, after := _, guard := _ } (.pointer (some ⟨g0, 11, none⟩)) rfl (hS90.pick [1] rfl rfl) (fun w hSw => by kernel_rfl) ?_
    refine gkS { dst := none, op := _, type := _, pos := _, after := _, guard := _ } rfl (st_store (j := 11) (v := (.bool (!p0_11))) rfl (by kernel_rfl) (by kernel_rfl) rfl (fun _ => by kernel_rfl) hS90 1 rfl (by show 11 < 12; decide)) ?_
    rintro w92 hS93
    have hS93 : St _ _ w92 [rowE .u8 5 (some ⟨w82.heap.size, 0, none⟩) 1 ([32]), boxE g0 [.slice A0_0 p0_0.length c0_0, .slice A0_1 p0_1.length c0_1, .int .i64 p0_3, .int .i64 p0_4, .int .i64 p0_5, .int .i64 p0_6, .int .i64 x7, .int .i64 x24, .int .i64 x25, .bool p0_10, .bool b54, .bool (!p0_11)] 49] := hS93
    refine ⟨(hS93.pick [] rfl rfl), ?_⟩
    refine gd_done (by kernel_rfl) ?_
    obtain rfl := Option.some.inj hO57
    exact gx_finN (.tuple #[]) (by kernel_rfl) (by kernel_rfl) ⟨_, rfl, rfl, (hS93.pick [1] rfl rfl)⟩
   | false =>
    try dsimp only at hO57
    refine gk0 11 { dst := some 112, op := _, type := _, pos := _, after := _, guard := _ } rfl (hS90.pick [1] rfl rfl) ?_
    refine gk0 12 { dst := some 113, op := _, type := _, pos := _, after := _, guard := _ } rfl (hS90.pick [1] rfl rfl) ?_
    refine gk0 13 { dst := some 114, op := _, type := _, pos := _, after := _, guard := _ } rfl (hS90.pick [1] rfl rfl) ?_
    refine gk0 14 { dst := some 115, op := _, type := _, pos := _, after := _, guard := _ } rfl (hS90.pick [1] rfl rfl) ?_
    refine gk0 15 { dst := some 116, op := _, type := _, pos := _, after := _, guard := _ } rfl (hS90.pick [1] rfl rfl) ?_
    refine gk1 16 { dst := some 117, op := _, type := _, pos := _, after := _, guard := _ } (.bool false) rfl (hS90.pick [1] rfl rfl) (fun w hSw => by kernel_rfl) ?_
    refine gk1f 17 { dst := some 118, op := _, type := _, pos := _, after := _, guard := _ } (.pointer (some ⟨g0, 0, none⟩)) rfl (hS90.pick [1] rfl rfl) (fun w => by kernel_rfl) ?_
    refine gk1 18 { dst := some 119, op := _, type := _, pos := _, after := _, guard := _ } (.pointer (some ⟨g0, 11, none⟩)) rfl (hS90.pick [1] rfl rfl) (fun w hSw => by kernel_rfl) ?_
    refine gkS { dst := none, op := _, type := _, pos := _, after := _, guard := _ } rfl (st_store (j := 11) (v := (.bool false)) rfl (by kernel_rfl) (by kernel_rfl) rfl (fun _ => by kernel_rfl) hS90 1 rfl (by show 11 < 12; decide)) ?_
    rintro w94 hS95
    have hS95 : St _ _ w94 [rowE .u8 5 (some ⟨w82.heap.size, 0, none⟩) 1 ([32]), boxE g0 [.slice A0_0 p0_0.length c0_0, .slice A0_1 p0_1.length c0_1, .int .i64 p0_3, .int .i64 p0_4, .int .i64 p0_5, .int .i64 p0_6, .int .i64 x7, .int .i64 x24, .int .i64 x25, .bool p0_10, .bool b54, .bool false] 49] := hS95
    refine ⟨(hS95.pick [] rfl rfl), ?_⟩
    refine gd_done (by kernel_rfl) ?_
    obtain rfl := Option.some.inj hO57
    exact gx_finN (.tuple #[]) (by kernel_rfl) (by kernel_rfl) ⟨_, rfl, rfl, (hS95.pick [1] rfl rfl)⟩
def pFirst (N : Nat) (p0 : List Int) : Option (List Int × Int × Int × Int × Int × Int × Int × Int × Bool × Bool × Bool) :=
 ((pTextOf N p0).bind fun l7 => ((pNext N p0 l7 (-1 : Int) (-1 : Int) (0 : Int) (0 : Int) (0 : Int) (-1 : Int) (-1 : Int) false false false (0 : Int)).bind fun x21 => ((pNext N p0 l7 (-1 : Int) (-1 : Int) (0 : Int) x21 (0 : Int) (-1 : Int) (-1 : Int) false false false x21).bind fun x33 => ((pGoOn N p0 l7 (-1 : Int) (-1 : Int) (0 : Int) x21 x33 (-1 : Int) (-1 : Int) false false false).bind fun (x43, x44, x45, x46, x47, x48, x49, b50, b51, b52) => some (l7, x43, x44, x45, x46, x47, x48, x49, b50, b51, b52)))))
set_option linter.unusedVariables false in
def pFirst_R (p0 : List Int) (A0 : Option Addr) (c0 : Nat) (r : List Int × Int × Int × Int × Int × Int × Int × Int × Bool × Bool × Bool) (w0 : World) (v : Value) (w : World) : Prop := ∃ (g0' : Nat) (A0_1' : Option Addr) (c0_1' : Nat), v = .pointer (some ⟨g0', 0, none⟩) ∧ St [] w0 w [boxE g0' [.slice A0 p0.length c0, .slice A0_1' r.1.length c0_1', .int .i64 r.2.1, .int .i64 r.2.2.1, .int .i64 r.2.2.2.1, .int .i64 r.2.2.2.2.1, .int .i64 r.2.2.2.2.2.1, .int .i64 r.2.2.2.2.2.2.1, .int .i64 r.2.2.2.2.2.2.2.1, .bool r.2.2.2.2.2.2.2.2.1, .bool r.2.2.2.2.2.2.2.2.2.1, .bool r.2.2.2.2.2.2.2.2.2.2] 49, rowE .u8 5 A0_1' c0_1' r.1]
set_option maxRecDepth 100000 in
set_option maxHeartbeats 4000000 in
theorem pFirst_ok (N : Nat) (p0 : List Int) (A0 : Option Addr) (c0 : Nat) (r : List Int × Int × Int × Int × Int × Int × Int × Int × Bool × Bool × Bool) (hF : pFirst N p0 = some r) (w0 : World) (hv0 : Vw [] .i32 w0 A0 c0 p0) :
  Calls Try.prog 18 #[.slice A0 p0.length c0] w0 fun e w => ∃ v, e = .returned v ∧ pFirst_R p0 A0 c0 r w0 v w := by
 have hS0 := St.start w0
 unfold pFirst at hF
 refine calls_of Try.func18 rfl ⟨((.slice A0 p0.length c0) :: un 32 ([])).toArray, []⟩ (by kernel_rfl) ?_
 refine gx_seq (fun K1 hK2 => ?_)
 refine gx_region ?_
 refine gx_k (.pointer none) w0 ?_
 refine gx_nil ?_
 refine gx_thenN ?_
 refine hK2 _ _ ?_
 refine gx_seq (fun K3 hK4 => ?_)
 refine gx_region ?_
 refine gx_k (.slice A0 p0.length c0) w0 ?_
 have hP5 : St _ _ w0 ([] ++ []) := hS0
 obtain ⟨l7, hc6, hF⟩ := bind_in hF
 try dsimp only at hF
 refine gx_c (pTextOf_R p0 A0 c0 l7 w0) (pTextOf_ok N p0 A0 c0 _ hc6 w0 (hP5.vwA hv0)) ?_
 rintro _ w10 ⟨A8, c9, rfl, hT12⟩
 have hS11 : St _ _ w10 [rowE .u8 5 A8 c9 l7] := hS0.take _ hT12
 refine gx_k (.agg #[.slice A0 p0.length c0, .slice A8 l7.length c9, .int .i64 (-1), .int .i64 (-1), .int .i64 0, .int .i64 0, .int .i64 0, .int .i64 (-1), .int .i64 (-1), .bool false, .bool false, .bool false]) w10 ?_
 refine gx_r (st_boxed [.slice A0 p0.length c0, .slice A8 l7.length c9, .int .i64 (-1), .int .i64 (-1), .int .i64 0, .int .i64 0, .int .i64 0, .int .i64 (-1), .int .i64 (-1), .bool false, .bool false, .bool false] 49 hS11 (by kernel_rfl)) ?_
 rintro _ w13 ⟨rfl, hS14⟩
 have hS14 : St _ _ w13 [rowE .u8 5 A8 c9 l7, boxE w10.heap.size [.slice A0 p0.length c0, .slice A8 l7.length c9, .int .i64 (-1), .int .i64 (-1), .int .i64 0, .int .i64 0, .int .i64 0, .int .i64 (-1), .int .i64 (-1), .bool false, .bool false, .bool false] 49] := hS14
 refine gx_k (.pointer (some ⟨w10.heap.size, 0, none⟩)) w13 ?_
 refine gx_nil ?_
 refine gx_thenN ?_
 refine hK4 _ _ ?_
 refine gx_seq (fun K15 hK16 => ?_)
 refine gd_start (fun w => St [] w0 w [rowE .u8 5 A8 c9 l7]) 12 #[false, false, false, false, false, false, false, false, false, false, false, false] (by kernel_rfl) (by kernel_rfl) ?_
 have hS18 := hS14.drew
 generalize w13.drew = w17 at hS18 ⊢
 refine gv1 0 8 (.pointer (some ⟨w10.heap.size, 0, none⟩)) rfl (hS18.pick [0] rfl rfl) ?_
 refine gv1 1 9 (.pointer (some ⟨w10.heap.size, 0, none⟩)) rfl (hS18.pick [0] rfl rfl) ?_
 refine gv1 2 10 (.pointer (some ⟨w10.heap.size, 0, none⟩)) rfl (hS18.pick [0] rfl rfl) ?_
 refine gv1 3 11 (.pointer (some ⟨w10.heap.size, 0, none⟩)) rfl (hS18.pick [0] rfl rfl) ?_
 refine gv1 4 12 (.pointer (some ⟨w10.heap.size, 0, none⟩)) rfl (hS18.pick [0] rfl rfl) ?_
 refine gv1 5 13 (.pointer (some ⟨w10.heap.size, 0, none⟩)) rfl (hS18.pick [0] rfl rfl) ?_
 refine gv1 6 14 (.pointer (some ⟨w10.heap.size, 4, none⟩)) rfl (hS18.pick [0] rfl rfl) ?_
 refine gdR 7 { dst := some 15, op := _, type := _, pos := _, after := _, guard := _ } (R := fun v w => v = .int .i64 0 ∧ w17 = w) rfl ⟨_, _, run_load1 rfl (by kernel_rfl) (fun _ => by kernel_rfl) (hS18.box 1 rfl 4 rfl), rfl, rfl⟩ ?_
 rintro _ _ ⟨rfl, rfl⟩
 refine ⟨(hS18.pick [0] rfl rfl), ?_⟩
 have hP19 : St _ _ w17 ([boxE w10.heap.size [.slice A0 p0.length c0, .slice A8 l7.length c9, .int .i64 (-1), .int .i64 (-1), .int .i64 0, .int .i64 0, .int .i64 0, .int .i64 (-1), .int .i64 (-1), .bool false, .bool false, .bool false] 49] ++ [rowE .u8 5 A8 c9 l7]) := hS18.pick [1, 0] rfl rfl
 obtain ⟨x21, hc20, hF⟩ := bind_in hF
 try dsimp only at hF
 refine gdC 8 { dst := some 16, op := _, type := _, pos := _, after := _, guard := _ } (pNext_R p0 l7 (-1 : Int) (-1 : Int) (0 : Int) (0 : Int) (0 : Int) (-1 : Int) (-1 : Int) false false false (0 : Int) w10.heap.size A0 c0 A8 c9 x21 w17) rfl (by kernel_rfl) (pNext_ok N p0 l7 (-1 : Int) (-1 : Int) (0 : Int) (0 : Int) (0 : Int) (-1 : Int) (-1 : Int) false false false (0 : Int) w10.heap.size A0 c0 A8 c9 _ hc20 w17 (hP19.vwA hv0) (hP19.vwB 0 rfl) hP19.part) ?_
 rintro _ w22 ⟨rfl, hT24⟩
 have hS23 : St _ _ w22 [rowE .u8 5 A8 c9 l7, boxE w10.heap.size [.slice A0 p0.length c0, .slice A8 l7.length c9, .int .i64 (-1), .int .i64 (-1), .int .i64 0, .int .i64 0, .int .i64 0, .int .i64 (-1), .int .i64 (-1), .bool false, .bool false, .bool false] 49] := hP19.lendN _ hT24
 refine ⟨(hS23.pick [0] rfl rfl), ?_⟩
 refine gv1 9 17 (.pointer (some ⟨w10.heap.size, 0, none⟩)) rfl (hS23.pick [0] rfl rfl) ?_
 refine gv1 10 18 (.pointer (some ⟨w10.heap.size, 5, none⟩)) rfl (hS23.pick [0] rfl rfl) ?_
 refine gdS 11 { dst := none, op := _, type := _, pos := _, after := _, guard := _ } rfl (st_store (j := 5) (v := (.int .i64 x21)) rfl (by kernel_rfl) (by kernel_rfl) rfl (fun _ => by kernel_rfl) hS23 1 rfl (by show 5 < 12; decide)) ?_
 rintro w25 hS26
 have hS26 : St _ _ w25 [rowE .u8 5 A8 c9 l7, boxE w10.heap.size [.slice A0 p0.length c0, .slice A8 l7.length c9, .int .i64 (-1), .int .i64 (-1), .int .i64 0, .int .i64 x21, .int .i64 0, .int .i64 (-1), .int .i64 (-1), .bool false, .bool false, .bool false] 49] := hS26
 refine ⟨(hS26.pick [0] rfl rfl), ?_⟩
 refine gd_done (by kernel_rfl) ?_
 refine gx_thenN ?_
 refine hK16 _ _ ?_
 refine gx_seq (fun K27 hK28 => ?_)
 refine gd_start (fun w => St [] w0 w [rowE .u8 5 A8 c9 l7]) 12 #[false, false, false, false, false, false, false, false, false, false, false, false] (by kernel_rfl) (by kernel_rfl) ?_
 have hS30 := hS26.drew
 generalize w25.drew = w29 at hS30 ⊢
 refine gv1 0 19 (.pointer (some ⟨w10.heap.size, 0, none⟩)) rfl (hS30.pick [0] rfl rfl) ?_
 refine gv1 1 20 (.pointer (some ⟨w10.heap.size, 0, none⟩)) rfl (hS30.pick [0] rfl rfl) ?_
 refine gv1 2 21 (.pointer (some ⟨w10.heap.size, 0, none⟩)) rfl (hS30.pick [0] rfl rfl) ?_
 refine gv1 3 22 (.pointer (some ⟨w10.heap.size, 0, none⟩)) rfl (hS30.pick [0] rfl rfl) ?_
 refine gv1 4 23 (.pointer (some ⟨w10.heap.size, 0, none⟩)) rfl (hS30.pick [0] rfl rfl) ?_
 refine gv1 5 24 (.pointer (some ⟨w10.heap.size, 0, none⟩)) rfl (hS30.pick [0] rfl rfl) ?_
 refine gv1 6 25 (.pointer (some ⟨w10.heap.size, 5, none⟩)) rfl (hS30.pick [0] rfl rfl) ?_
 refine gdR 7 { dst := some 26, op := _, type := _, pos := _, after := _, guard := _ } (R := fun v w => v = .int .i64 x21 ∧ w29 = w) rfl ⟨_, _, run_load1 rfl (by kernel_rfl) (fun _ => by kernel_rfl) (hS30.box 1 rfl 5 rfl), rfl, rfl⟩ ?_
 rintro _ _ ⟨rfl, rfl⟩
 refine ⟨(hS30.pick [0] rfl rfl), ?_⟩
 have hP31 : St _ _ w29 ([boxE w10.heap.size [.slice A0 p0.length c0, .slice A8 l7.length c9, .int .i64 (-1), .int .i64 (-1), .int .i64 0, .int .i64 x21, .int .i64 0, .int .i64 (-1), .int .i64 (-1), .bool false, .bool false, .bool false] 49] ++ [rowE .u8 5 A8 c9 l7]) := hS30.pick [1, 0] rfl rfl
 obtain ⟨x33, hc32, hF⟩ := bind_in hF
 try dsimp only at hF
 refine gdC 8 { dst := some 27, op := _, type := _, pos := _, after := _, guard := _ } (pNext_R p0 l7 (-1 : Int) (-1 : Int) (0 : Int) x21 (0 : Int) (-1 : Int) (-1 : Int) false false false x21 w10.heap.size A0 c0 A8 c9 x33 w29) rfl (by kernel_rfl) (pNext_ok N p0 l7 (-1 : Int) (-1 : Int) (0 : Int) x21 (0 : Int) (-1 : Int) (-1 : Int) false false false x21 w10.heap.size A0 c0 A8 c9 _ hc32 w29 (hP31.vwA hv0) (hP31.vwB 0 rfl) hP31.part) ?_
 rintro _ w34 ⟨rfl, hT36⟩
 have hS35 : St _ _ w34 [rowE .u8 5 A8 c9 l7, boxE w10.heap.size [.slice A0 p0.length c0, .slice A8 l7.length c9, .int .i64 (-1), .int .i64 (-1), .int .i64 0, .int .i64 x21, .int .i64 0, .int .i64 (-1), .int .i64 (-1), .bool false, .bool false, .bool false] 49] := hP31.lendN _ hT36
 refine ⟨(hS35.pick [0] rfl rfl), ?_⟩
 refine gv1 9 28 (.pointer (some ⟨w10.heap.size, 0, none⟩)) rfl (hS35.pick [0] rfl rfl) ?_
 refine gv1 10 29 (.pointer (some ⟨w10.heap.size, 6, none⟩)) rfl (hS35.pick [0] rfl rfl) ?_
 refine gdS 11 { dst := none, op := _, type := _, pos := _, after := _, guard := _ } rfl (st_store (j := 6) (v := (.int .i64 x33)) rfl (by kernel_rfl) (by kernel_rfl) rfl (fun _ => by kernel_rfl) hS35 1 rfl (by show 6 < 12; decide)) ?_
 rintro w37 hS38
 have hS38 : St _ _ w37 [rowE .u8 5 A8 c9 l7, boxE w10.heap.size [.slice A0 p0.length c0, .slice A8 l7.length c9, .int .i64 (-1), .int .i64 (-1), .int .i64 0, .int .i64 x21, .int .i64 x33, .int .i64 (-1), .int .i64 (-1), .bool false, .bool false, .bool false] 49] := hS38
 refine ⟨(hS38.pick [0] rfl rfl), ?_⟩
 refine gd_done (by kernel_rfl) ?_
 refine gx_thenN ?_
 refine hK28 _ _ ?_
 refine gx_seq (fun K39 hK40 => ?_)
 refine gx_region ?_
 refine gx_k (.pointer (some ⟨w10.heap.size, 0, none⟩)) w37 ?_
 have hP41 : St _ _ w37 ([boxE w10.heap.size [.slice A0 p0.length c0, .slice A8 l7.length c9, .int .i64 (-1), .int .i64 (-1), .int .i64 0, .int .i64 x21, .int .i64 x33, .int .i64 (-1), .int .i64 (-1), .bool false, .bool false, .bool false] 49] ++ [rowE .u8 5 A8 c9 l7]) := hS38.pick [1, 0] rfl rfl
 obtain ⟨⟨x43, x44, x45, x46, x47, x48, x49, b50, b51, b52⟩, hc42, hF⟩ := bind_in hF
 try dsimp only at hF
 refine gx_c (pGoOn_R p0 l7 (-1 : Int) (-1 : Int) (0 : Int) x21 x33 (-1 : Int) (-1 : Int) false false false w10.heap.size A0 c0 A8 c9 (x43, x44, x45, x46, x47, x48, x49, b50, b51, b52) w37) (pGoOn_ok N p0 l7 (-1 : Int) (-1 : Int) (0 : Int) x21 x33 (-1 : Int) (-1 : Int) false false false w10.heap.size A0 c0 A8 c9 _ hc42 w37 (hP41.vwA hv0) (hP41.vwB 0 rfl) hP41.part) ?_
 rintro _ w53 ⟨rfl, hT55⟩
 have hS54 : St _ _ w53 [rowE .u8 5 A8 c9 l7, boxE w10.heap.size [.slice A0 p0.length c0, .slice A8 l7.length c9, .int .i64 x43, .int .i64 x44, .int .i64 x45, .int .i64 x46, .int .i64 x47, .int .i64 x48, .int .i64 x49, .bool b50, .bool b51, .bool b52] 49] := hP41.lendN _ hT55
 refine gx_nil ?_
 refine gx_thenN ?_
 refine hK40 _ _ ?_
 refine gx_seq (fun K56 hK57 => ?_)
 refine gx_region ?_
 refine gx_k (.pointer (some ⟨w10.heap.size, 0, none⟩)) w53 (gx_k (.pointer (some ⟨w10.heap.size, 0, none⟩)) w53 ?_)
 refine gx_nil ?_
 refine gx_thenN ?_
 refine hK57 _ _ ?_
 refine gx_ret ?_
 obtain rfl := Option.some.inj hF
 exact gx_fin (.pointer (some ⟨w10.heap.size, 0, none⟩)) (by kernel_rfl) (by kernel_rfl) ⟨_, rfl, w10.heap.size, A8, c9, rfl, (hS54.pick [1, 0] rfl rfl)⟩
def rulC : List Value := .func (.func 36) #[] #[] :: .func (.func 37) #[] #[] :: .func (.func 38) #[] #[] :: .func (.func 39) #[] #[] :: .func (.func 40) #[] #[] :: .func (.func 41) #[] #[] :: .func (.func 42) #[] #[] :: .func (.func 43) #[] #[] :: .func (.func 44) #[] #[] :: .func (.func 45) #[] #[] :: .func (.func 46) #[] #[] :: .func (.func 47) #[] #[] :: .func (.func 48) #[] #[] :: .func (.func 49) #[] #[] :: .func (.func 50) #[] #[] :: .func (.func 51) #[] #[] :: .func (.func 52) #[] #[] :: .func (.func 53) #[] #[] :: .func (.func 54) #[] #[] :: .func (.func 55) #[] #[] :: .func (.func 56) #[] #[] :: .func (.func 57) #[] #[] :: .func (.func 58) #[] #[] :: .func (.func 59) #[] #[] :: .func (.func 60) #[] #[] :: .func (.func 61) #[] #[] :: .func (.func 62) #[] #[] :: .func (.func 63) #[] #[] :: .func (.func 64) #[] #[] :: .func (.func 65) #[] #[] :: .func (.func 66) #[] #[] :: .func (.func 67) #[] #[] :: .func (.func 68) #[] #[] :: .func (.func 69) #[] #[] :: .func (.func 70) #[] #[] :: .func (.func 71) #[] #[] :: .func (.func 72) #[] #[] :: .func (.func 73) #[] #[] :: .func (.func 74) #[] #[] :: .func (.func 75) #[] #[] :: .func (.func 76) #[] #[] :: .func (.func 77) #[] #[] :: .func (.func 78) #[] #[] :: []
def pRules (_N : Nat) : Option (Unit) :=
 some ()
set_option linter.unusedVariables false in
def pRules_R (_r : Unit) (w0 : World) (v : Value) (w : World) : Prop := v = .agg rulC.toArray ∧ St [] w0 w []
set_option maxRecDepth 100000 in
set_option maxHeartbeats 4000000 in
theorem pRules_ok (N : Nat)  (r : Unit) (hF : pRules N = some r) (w0 : World)  :
  Calls Try.prog 17 #[] w0 fun e w => ∃ v, e = .returned v ∧ pRules_R r w0 v w := by
 have hS0 := St.start w0
 unfold pRules at hF
 refine calls_of Try.func17 rfl ⟨(undef :: undef :: []).toArray, []⟩ (by kernel_rfl) ?_
 refine gx_seq (fun K1 hK2 => ?_)
 refine gx_region ?_
 refine gx_r (st_boxed [Value.nilFunc, Value.nilFunc, Value.nilFunc, Value.nilFunc, Value.nilFunc, Value.nilFunc, Value.nilFunc, Value.nilFunc, Value.nilFunc, Value.nilFunc, Value.nilFunc, Value.nilFunc, Value.nilFunc, Value.nilFunc, Value.nilFunc, Value.nilFunc, Value.nilFunc, Value.nilFunc, Value.nilFunc, Value.nilFunc, Value.nilFunc, Value.nilFunc, Value.nilFunc, Value.nilFunc, Value.nilFunc, Value.nilFunc, Value.nilFunc, Value.nilFunc, Value.nilFunc, Value.nilFunc, Value.nilFunc, Value.nilFunc, Value.nilFunc, Value.nilFunc, Value.nilFunc, Value.nilFunc, Value.nilFunc, Value.nilFunc, Value.nilFunc, Value.nilFunc, Value.nilFunc, Value.nilFunc, Value.nilFunc] 42 hS0 (by kernel_rfl)) ?_
 rintro _ w3 ⟨rfl, hS4⟩
 have hS4 : St _ _ w3 [boxE w0.heap.size [Value.nilFunc, Value.nilFunc, Value.nilFunc, Value.nilFunc, Value.nilFunc, Value.nilFunc, Value.nilFunc, Value.nilFunc, Value.nilFunc, Value.nilFunc, Value.nilFunc, Value.nilFunc, Value.nilFunc, Value.nilFunc, Value.nilFunc, Value.nilFunc, Value.nilFunc, Value.nilFunc, Value.nilFunc, Value.nilFunc, Value.nilFunc, Value.nilFunc, Value.nilFunc, Value.nilFunc, Value.nilFunc, Value.nilFunc, Value.nilFunc, Value.nilFunc, Value.nilFunc, Value.nilFunc, Value.nilFunc, Value.nilFunc, Value.nilFunc, Value.nilFunc, Value.nilFunc, Value.nilFunc, Value.nilFunc, Value.nilFunc, Value.nilFunc, Value.nilFunc, Value.nilFunc, Value.nilFunc, Value.nilFunc] 42] := hS4
 refine gx_nil ?_
 refine gx_thenN ?_
 refine hK2 _ _ ?_
 refine gx_seq (fun K5 hK6 => ?_)
 refine gx_region ?_
 refine gx_k (.agg rulC.toArray) w3 ?_
 refine gx_s (st_storeG (cs := [Value.nilFunc, Value.nilFunc, Value.nilFunc, Value.nilFunc, Value.nilFunc, Value.nilFunc, Value.nilFunc, Value.nilFunc, Value.nilFunc, Value.nilFunc, Value.nilFunc, Value.nilFunc, Value.nilFunc, Value.nilFunc, Value.nilFunc, Value.nilFunc, Value.nilFunc, Value.nilFunc, Value.nilFunc, Value.nilFunc, Value.nilFunc, Value.nilFunc, Value.nilFunc, Value.nilFunc, Value.nilFunc, Value.nilFunc, Value.nilFunc, Value.nilFunc, Value.nilFunc, Value.nilFunc, Value.nilFunc, Value.nilFunc, Value.nilFunc, Value.nilFunc, Value.nilFunc, Value.nilFunc, Value.nilFunc, Value.nilFunc, Value.nilFunc, Value.nilFunc, Value.nilFunc, Value.nilFunc, Value.nilFunc]) (ds := [.func (.func 36) #[] #[], .func (.func 37) #[] #[], .func (.func 38) #[] #[], .func (.func 39) #[] #[], .func (.func 40) #[] #[], .func (.func 41) #[] #[], .func (.func 42) #[] #[], .func (.func 43) #[] #[], .func (.func 44) #[] #[], .func (.func 45) #[] #[], .func (.func 46) #[] #[], .func (.func 47) #[] #[], .func (.func 48) #[] #[], .func (.func 49) #[] #[], .func (.func 50) #[] #[], .func (.func 51) #[] #[], .func (.func 52) #[] #[], .func (.func 53) #[] #[], .func (.func 54) #[] #[], .func (.func 55) #[] #[], .func (.func 56) #[] #[], .func (.func 57) #[] #[], .func (.func 58) #[] #[], .func (.func 59) #[] #[], .func (.func 60) #[] #[], .func (.func 61) #[] #[], .func (.func 62) #[] #[], .func (.func 63) #[] #[], .func (.func 64) #[] #[], .func (.func 65) #[] #[], .func (.func 66) #[] #[], .func (.func 67) #[] #[], .func (.func 68) #[] #[], .func (.func 69) #[] #[], .func (.func 70) #[] #[], .func (.func 71) #[] #[], .func (.func 72) #[] #[], .func (.func 73) #[] #[], .func (.func 74) #[] #[], .func (.func 75) #[] #[], .func (.func 76) #[] #[], .func (.func 77) #[] #[], .func (.func 78) #[] #[]]) rfl (by kernel_rfl) (by kernel_rfl) (by kernel_rfl) rfl rfl hS4 0 rfl) ?_
 rintro w7 hS8
 have hS8 : St _ _ w7 [boxE w0.heap.size rulC 42] := hS8
 refine gx_nil ?_
 refine gx_thenN ?_
 refine hK6 _ _ ?_
 refine gx_ret ?_
 obtain rfl := Option.some.inj hF
 exact gx_fin (.agg rulC.toArray) (by kernel_rfl) (res_cell rfl _ _ w0.heap.size _ _ _ (by kernel_rfl) (hS8.get 0 rfl) (by kernel_rfl) (by kernel_rfl)) ⟨_, rfl, rfl, (hS8.pick [] rfl rfl)⟩
end Go.Proofs.Ytdbimchiecdkoaa
